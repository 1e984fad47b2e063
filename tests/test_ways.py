"""Point 3: way, ways, never, gone, missed, who."""

import unittest

from helper import (
    FEWER, FILL, GONE, LARGEST, MISSED, NEVER, WAYS, X, Y, Z, ask, below, copy, drop, end, keep, last, less, load, put,
    read, tell, way, who)

# Ways 2 and 3, 4 and 5; way 4 is never gone, as X isn't below 2 there.
PROGRAM = load(1, [read(X, 1), below(X, 2, 0, 2), below(X, 2, 3, 3), end()])


class WayRefusals(unittest.TestCase):
    def test_no_such_node(self):
        for ask_way in (way, who):
            for i in (4, 5, 16, LARGEST):
                for out in (0, 1, 2):
                    self.assertEqual(last(PROGRAM, ask_way(i, out)), [-22], (i, out))

    def test_no_comparison(self):
        rows = [read(X, 1), put(X, 0, 2), copy(X, X, 3), tell(X, 4), end()]
        for ask_way in (way, who):
            for i in range(5):
                for out in (0, 1, 2):
                    self.assertEqual(last(load(1, rows), ask_way(i, out)), [-22], (i, out))

    def test_out_above_1(self):
        for ask_way in (way, who):
            for out in (2, 3, LARGEST):
                self.assertEqual(last(PROGRAM, ask_way(1, out)), [-22], out)

    def test_not_as_told_comes_ahead_of_no_test(self):
        program = load(1, [end(), below(X, 1, 0, 0)])
        self.assertEqual(last(program, way(1, 0)), [-1])
        self.assertEqual(last(program, way(1, 1)), [-1])
        self.assertEqual(last(program, way(1, 2)), [-22])
        self.assertEqual(last(program, who(1, 1)), [0])

    def test_no_test_goes_there(self):
        self.assertEqual(last(PROGRAM, way(2, 0)), [-1])
        self.assertEqual(last(PROGRAM, who(2, 0)), [0])


class LeastTests(unittest.TestCase):
    def test_of_no_number(self):
        rows = [below(X, 1, 1, 1), put(Y, 2, 2), less(Y, X, 3, 3), end()]
        self.assertEqual(ask(load(2, rows), way(0, 0), way(0, 1), way(2, 0), way(2, 1))[1:], [[0], [-1], [-1], [0]])

    def test_of_one_number(self):
        rows = [read(X, 1), below(X, 1, 2, 2), below(X, 3, 3, 3), below(X, 4, 4, 4), end()]
        self.assertEqual(ask(load(1, rows), way(1, 0), way(1, 1), way(2, 0), way(2, 1), way(3, 0), way(3, 1))[1:],
                         [[1, 0], [1, 1], [1, 0], [1, 3], [1, 0], [1, 4]])

    def test_of_more_numbers(self):
        rows = [read(X, 1), read(Y, 2), less(X, Y, 3, 0), read(Z, 4), less(Y, Z, 5, 0), end()]
        self.assertEqual(ask(load(3, rows), way(2, 0), way(2, 1), way(4, 0), way(4, 1))[1:],
                         [[2, 0, 1], [2, 0, 0], [3, 0, 1, 2], [3, 0, 1, 0]])

    def test_the_first_read_number_is_not_always_the_least(self):
        rows = [read(X, 1), read(Y, 2), less(Y, X, 3, 4), read(Z, 5), end(), less(Z, Y, 4, 4)]
        self.assertEqual(ask(load(3, rows), way(2, 0), way(5, 0), way(5, 1))[1:],
                         [[2, 1, 0], [3, 2, 1, 0], [3, 1, 0, 0]])

    def test_fewest_numbers_come_ahead_of_going_out_by_0(self):
        # By 0 at node 1 a second number is read first.
        rows = [read(X, 1), below(X, 2, 2, 3), read(X, 3), below(X, 3, 4, 4), end()]
        self.assertEqual(ask(load(1, rows), way(3, 0), way(3, 1))[1:], [[1, 2], [1, 3]])

    def test_going_out_by_0_comes_ahead_of_small_numbers(self):
        # By 1 out of the first comparison 0 would do.
        rows = [read(X, 1), less(Y, X, 2, 3), below(X, 3, 3, 3), below(X, 4, 4, 4), end()]
        self.assertEqual(last(load(2, rows), way(3, 0)), [1, 1])
        rows = [put(Y, 2, 1), read(X, 2), less(Y, X, 3, 3), below(X, 4, 4, 4), end()]
        self.assertEqual(last(load(2, rows), way(3, 0)), [1, 3])

    def test_where_first_they_go_otherwise_counts_most(self):
        # 0 at node 2 and 1 at node 3 comes ahead of 1 and 0, though the numbers are larger.
        rows = [put(Z, 1, 1), read(X, 2), less(Z, X, 3, 4), below(X, 2, 6, 5), below(X, 4, 5, 6),
                less(Y, X, 6, 6), end()]
        self.assertEqual(last(load(3, rows), way(5, 0)), [1, 2])

    def test_paths_part_behind_several_reads(self):
        # Y above X is by 0, so the second number is 1 though 0 would do.
        rows = [read(X, 1), read(Y, 2), less(X, Y, 3, 3), below(X, 1, 4, 4), end()]
        self.assertEqual(ask(load(2, rows), way(3, 0), way(3, 1))[1:], [[2, 0, 1], [2, 1, 2]])

    def test_up_to_the_first_time_alone(self):
        # The loop goes on behind way 2, but the least test is done there.
        rows = [read(X, 1), below(X, 2, 0, 2), end()]
        self.assertEqual(ask(load(1, rows), way(1, 0), way(1, 1))[1:], [[1, 0], [1, 2]])

    def test_small_numbers_set_and_compared(self):
        rows = [put(Y, 3, 1), read(X, 2), less(X, Y, 0, 3), less(Y, X, 4, 5), end(), end()]
        self.assertEqual(ask(load(2, rows), way(2, 0), way(2, 1), way(3, 0), way(3, 1))[1:],
                         [[1, 0], [1, 3], [1, 4], [1, 3]])

    def test_many_numbers_by_counting(self):
        # Y counts how often 0 was read, up to 3.
        rows = [
            read(X, 1), below(X, 1, 2, 9), below(Y, 1, 3, 4), put(Y, 1, 0), below(Y, 2, 5, 6), put(Y, 2, 0),
            below(Y, 3, 7, 8), put(Y, 3, 0), end(), end()]
        self.assertEqual(ask(load(2, rows), way(2, 0), way(2, 1), way(4, 0), way(4, 1), way(6, 0), way(6, 1))[1:],
                         [[1, 0], [2, 0, 0], [2, 0, 0], [3, 0, 0, 0], [3, 0, 0, 0], [4, 0, 0, 0, 0]])


class WhichWays(unittest.TestCase):
    def test_ways_and_never(self):
        self.assertEqual(ask(PROGRAM, WAYS, NEVER)[1:], [[3, 2, 3, 5], [1, 4]])

    def test_no_comparisons(self):
        self.assertEqual(ask(load(1, [read(X, 0)]), WAYS, NEVER, GONE, MISSED)[1:], [[0]] * 4)

    def test_never_however_long(self):
        # Only a number below Y and not below X would do, where X is Y.
        rows = [read(X, 1), copy(Y, X, 2), less(X, Y, 3, 0), less(Y, X, 0, 0)]
        self.assertEqual(ask(load(2, rows), WAYS, NEVER)[1:], [[1, 5], [3, 4, 6, 7]])

    def test_a_comparison_that_is_not_come_to(self):
        rows = [end(), below(X, 1, 0, 0), less(X, X, 1, 1)]
        self.assertEqual(ask(load(1, rows), WAYS, NEVER)[1:], [[0], [4, 2, 3, 4, 5]])

    def test_kept_tests_do_not_change_ways_and_never(self):
        found = ask(PROGRAM, keep([0]), WAYS, NEVER, FILL, WAYS, NEVER, drop(0), WAYS, NEVER)
        self.assertEqual([found[k] for k in (2, 5, 8)], [[3, 2, 3, 5]] * 3)
        self.assertEqual([found[k] for k in (3, 6, 9)], [[1, 4]] * 3)

    def test_gone_missed_and_who_before_and_after_keep_drop_and_fill(self):
        look = [GONE, MISSED, who(1, 0), who(1, 1), who(2, 0), who(2, 1)]
        self.assertEqual(ask(PROGRAM, *look)[1:], [[0], [3, 2, 3, 5], [0], [0], [0], [0]])
        self.assertEqual(ask(PROGRAM, keep([1, 1]), *look)[2:], [[1, 2], [2, 3, 5], [1, 0], [0], [0], [0]])
        found = ask(PROGRAM, keep([1, 1]), keep([1, 7]), *look)
        self.assertEqual(found[3:], [[3, 2, 3, 5], [0], [2, 0, 1], [1, 1], [0], [1, 1]])
        found = ask(PROGRAM, keep([1, 1]), keep([1, 7]), drop(0), *look)
        self.assertEqual(found[4:], [[3, 2, 3, 5], [0], [1, 0], [1, 0], [0], [1, 0]])
        found = ask(PROGRAM, keep([1, 1]), keep([1, 7]), drop(1), *look)
        self.assertEqual(found[4:], [[1, 2], [2, 3, 5], [1, 0], [0], [0], [0]])
        found = ask(PROGRAM, keep([1, 1]), FILL, *look)
        self.assertEqual(found[2:], [[1], [3, 2, 3, 5], [0], [1, 0], [1, 1], [0], [1, 1]])

    def test_who_behind_fewer(self):
        found = ask(PROGRAM, keep([]), keep([1]), keep([1]), keep([9]), FEWER, who(1, 0), who(1, 1))
        self.assertEqual(found[-2:], [[1, 0], [1, 1]])


if __name__ == "__main__":
    unittest.main()
