"""Point 2: run, keep, drop, fill, fewer."""

import unittest

from helper import (
    FEWER, FILL, GONE, LARGEST, MISSED, WAYS, X, Y, ask, below, copy, drop, end, keep, last, less, load, put, read, run,
    tell, who)

# Tells what it reads, and waits for more.
ECHO = load(1, [read(X, 1), tell(X, 0)])
# Reads one number, tells it if it's below 3, and ends.
ONCE = load(1, [read(X, 1), below(X, 3, 2, 3), tell(X, 3), end()])
# One comparison for each of 1, 2, 3, 4 behind one read: ways 2 to 9.
STEPS = load(1, [
    read(X, 1), below(X, 1, 5, 2), below(X, 2, 5, 3), below(X, 3, 5, 4), below(X, 4, 5, 5), end()])


class RunTold(unittest.TestCase):
    def test_ends(self):
        self.assertEqual(last(ONCE, run([1])), [0, 1, 1, 1, 1, 2])
        self.assertEqual(last(ONCE, run([3])), [0, 1, 0, 1, 3])

    def test_ends_without_a_number(self):
        self.assertEqual(last(load(1, [end()]), run([])), [0, 0, 0, 0])
        self.assertEqual(last(load(1, [tell(X, 1), end()]), run([8])), [0, 0, 1, 0, 0])

    def test_numbers_left_over_where_it_ends(self):
        self.assertEqual(last(ONCE, run([2, 9, 9])), [0, 1, 1, 2, 1, 2])

    def test_waits(self):
        self.assertEqual(last(ECHO, run([])), [1, 0, 0, 0])
        self.assertEqual(last(ECHO, run([5, LARGEST, 0])), [1, 3, 3, 5, LARGEST, 0, 0])

    def test_waits_behind_something_told(self):
        self.assertEqual(last(load(1, [tell(X, 1), tell(X, 2), read(X, 0)]), run([7])), [1, 1, 4, 0, 0, 7, 7, 0])

    def test_goes_round_without_a_read(self):
        self.assertEqual(last(load(1, [put(X, 1, 1), below(X, 2, 0, 0)]), run([])), [2, 0, 0, 1, 2])
        self.assertEqual(last(load(1, [put(X, 1, 1), below(X, 2, 0, 0)]), run([4, 4])), [2, 0, 0, 1, 2])

    def test_goes_round_behind_a_read(self):
        rows = [read(X, 1), below(X, 2, 1, 2), end()]
        self.assertEqual(last(load(1, rows), run([1, 8])), [2, 1, 0, 1, 2])
        self.assertEqual(last(load(1, rows), run([2, 8])), [0, 1, 0, 1, 3])

    def test_what_is_told_till_the_last_read_where_it_goes_round(self):
        rows = [tell(X, 1), read(X, 2), tell(X, 3), read(X, 4), tell(X, 4)]
        self.assertEqual(last(load(1, rows), run([7, 8])), [2, 2, 2, 0, 7, 0])
        self.assertEqual(last(load(1, rows), run([7, 8, 9])), [2, 2, 2, 0, 7, 0])
        self.assertEqual(last(load(1, rows), run([7])), [1, 1, 2, 0, 7, 0])

    def test_nothing_is_told_where_it_goes_round_without_a_read(self):
        rows = [tell(X, 1), put(X, 2, 2), tell(X, 0)]
        self.assertEqual(last(load(1, rows), run([1])), [2, 0, 0, 0])

    def test_a_node_again_with_others_held_is_no_round(self):
        rows = [below(X, 3, 1, 6), below(X, 2, 2, 5), below(X, 1, 3, 4), put(X, 1, 0), put(X, 2, 0), put(X, 3, 0), end()]
        self.assertEqual(last(load(1, rows), run([])), [0, 0, 0, 6, 0, 1, 2, 3, 4, 5])

    def test_a_node_again_with_the_same_held_but_a_read_between_is_no_round(self):
        self.assertEqual(last(ECHO, run([5, 5, 5])), [1, 3, 3, 5, 5, 5, 0])
        rows = [below(X, 1, 1, 1), read(X, 0)]
        self.assertEqual(last(load(1, rows), run([0, 0])), [1, 2, 0, 1, 0])

    def test_ways_come_once_and_rise(self):
        rows = [read(X, 1), below(X, 4, 0, 0)]
        self.assertEqual(last(load(1, rows), run([9, 1, 9, 1])), [1, 4, 0, 2, 2, 3])

    def test_copies_and_comparisons_of_variables(self):
        # Tells the larger of two.
        rows = [read(X, 1), read(Y, 2), less(X, Y, 3, 4), copy(X, Y, 4), tell(X, 5), end()]
        self.assertEqual(last(load(2, rows), run([4, 9])), [0, 2, 1, 9, 1, 4])
        self.assertEqual(last(load(2, rows), run([9, 4])), [0, 2, 1, 9, 1, 5])
        self.assertEqual(last(load(2, rows), run([9, 9])), [0, 2, 1, 9, 1, 5])
        self.assertEqual(last(load(2, rows), run([LARGEST - 1, LARGEST])), [0, 2, 1, LARGEST, 1, 4])

    def test_how_long_a_test_may_be(self):
        test = [k % 7 for k in range(256)]
        self.assertEqual(last(ECHO, run(test)), [1, 256, 256] + test + [0])
        self.assertEqual(last(ONCE, run([1] * 256)), [0, 1, 1, 1, 1, 2])
        for size in (257, 258, 260):
            self.assertEqual(last(ECHO, run([1] * size)), [-22])
            self.assertEqual(last(ONCE, run([1] * size)), [-22])

    def test_run_keeps_nothing(self):
        self.assertEqual(ask(ONCE, run([1]), GONE, drop(0))[2:], [[0], [-2]])


class KeepDrop(unittest.TestCase):
    def test_numbers_rise(self):
        self.assertEqual(ask(ONCE, keep([1]), keep([]), keep([1]))[1:], [[0], [1], [2]])

    def test_how_long_a_test_may_be(self):
        self.assertEqual(ask(ONCE, keep([1] * 256), keep([1] * 257), keep([1] * 260), GONE, keep([]))[1:],
                         [[0], [-22], [-22], [1, 2], [1]])

    def test_how_many_are_kept(self):
        found = ask(ONCE, *([keep([k]) for k in range(33)] + [keep([0]), drop(0), keep([0]), keep([0])]))
        self.assertEqual(found[1:], [[k] for k in range(32)] + [[-28], [-28], [31], [31], [-28]])

    def test_too_long_comes_ahead_of_too_many(self):
        found = ask(ONCE, *([keep([])] * 31 + [keep([1] * 257), keep([]), keep([1] * 257), keep([1] * 256)]))
        self.assertEqual(found[-4:], [[-22], [31], [-22], [-28]])

    def test_drop_first_last_and_none_such(self):
        kept = [keep([0]), keep([1]), keep([2]), keep([3])]
        self.assertEqual(ask(STEPS, *kept, drop(4), drop(LARGEST))[-2:], [[-2], [-2]])
        ways = [who(1, 0), who(2, 0), who(3, 0), who(4, 0)]
        self.assertEqual(ask(STEPS, *kept, *ways)[-4:], [[1, 0], [1, 1], [1, 2], [1, 3]])
        self.assertEqual(ask(STEPS, *kept, drop(0), *ways)[-5:], [[3], [0], [1, 0], [1, 1], [1, 2]])
        self.assertEqual(ask(STEPS, *kept, drop(1), *ways)[-5:], [[3], [1, 0], [0], [1, 1], [1, 2]])
        self.assertEqual(ask(STEPS, *kept, drop(3), *ways)[-5:], [[3], [1, 0], [1, 1], [1, 2], [0]])

    def test_drop_till_none_is_left(self):
        found = ask(ONCE, drop(0), keep([1]), keep([5]), drop(1), drop(1), drop(0), drop(0), GONE)
        self.assertEqual(found[1:], [[-2], [0], [1], [1], [-2], [0], [-2], [0]])


class Fill(unittest.TestCase):
    def test_least_tests_by_numbers_behind_the_others(self):
        found = ask(STEPS, keep([2]), FILL, who(1, 0), who(2, 0), who(3, 0), who(4, 0), who(4, 1), who(1, 1))
        # [2] goes 3, 5, 6; missing are 2 by [0], 4 by [1], 7 and 8 by [3], 9 by [4].
        self.assertEqual(found[1:], [[0], [4], [1, 1], [1, 2], [1, 0], [1, 3], [1, 4], [4, 0, 2, 3, 4]])

    def test_a_way_gone_by_one_just_filled_in_needs_no_other(self):
        rows = [read(X, 1), below(X, 2, 2, 2), below(X, 3, 3, 3), end()]
        # Ways 2 and 4 by [0]; 3 by [2], which goes 4; 5 by [3].
        self.assertEqual(ask(load(1, rows), FILL, who(1, 0), who(1, 1), who(2, 0), who(2, 1))[1:],
                         [[3], [1, 0], [2, 1, 2], [2, 0, 1], [1, 2]])

    def test_all_gone(self):
        self.assertEqual(ask(STEPS, FILL, FILL, MISSED, GONE)[1:],
                         [[5], [0], [0], [8, 2, 3, 4, 5, 6, 7, 8, 9]])

    def test_ways_that_no_test_goes_are_left(self):
        self.assertEqual(ask(load(1, [less(X, X, 0, 1), end()]), FILL, GONE, FILL)[1:], [[1], [1, 1], [0]])

    def test_no_ways(self):
        self.assertEqual(ask(ECHO, FILL, drop(0))[1:], [[0], [-2]])

    def test_more_than_may_be_kept(self):
        # STEPS needs 5 tests: for the ways 2, 3 (and 4), 5 (and 6), 7 (and 8), 9.
        for before, wanted in ((27, [5]), (28, [-28]), (32, [-28])):
            found = ask(STEPS, *([keep([])] * before), FILL, drop(before), GONE)
            self.assertEqual(found[-3], wanted, before)
            self.assertEqual(found[-2], [31] if before == 27 else [-2], before)
            if before > 27:
                self.assertEqual(found[-1], [0], before)

    def test_nothing_changes_where_there_would_be_too_many(self):
        found = ask(STEPS, *([keep([0])] * 29), FILL, GONE, MISSED, keep([]), who(1, 0))
        self.assertEqual(found[-5:-1], [[-28], [1, 2], [7, 3, 4, 5, 6, 7, 8, 9], [29]])
        self.assertEqual(found[-1], [29] + list(range(29)))

    def test_full_but_nothing_missing(self):
        tests = [[0], [1], [2], [3], [4]]
        found = ask(STEPS, *[keep(test) for test in tests], *([keep([])] * 27), FILL, keep([]))
        self.assertEqual(found[-2:], [[0], [-28]])
        found = ask(STEPS, *[keep(test) for test in tests[:4]], *([keep([])] * 27), FILL, keep([]))
        self.assertEqual(found[-2:], [[1], [-28]])


class Fewer(unittest.TestCase):
    def test_none_kept(self):
        self.assertEqual(ask(ONCE, FEWER, keep([]))[1:], [[0], [0]])

    def test_no_ways_and_no_changes(self):
        program = load(3, [end()])
        self.assertEqual(ask(program, keep([]), keep([1]), keep([2]), FEWER, drop(0))[-2:], [[3], [-2]])

    def test_two_needless_of_which_just_one_can_go(self):
        self.assertEqual(ask(STEPS, keep([2]), keep([2]), FEWER, FEWER, GONE)[-3:], [[1], [0], [3, 3, 5, 6]])
        # 7 and 9 go the same ways, and no change tells them apart.
        self.assertEqual(ask(STEPS, keep([7]), keep([9]), FEWER, FEWER, who(4, 1))[-3:], [[1], [0], [1, 0]])

    def test_needed_for_a_way(self):
        found = ask(STEPS, keep([0]), keep([1]), keep([2]), FEWER)
        self.assertEqual(found[-1], [0])

    def test_needed_for_a_change_told_by_what_is_told(self):
        # No ways at all. Changes: node 0 to 0 or 2, node 1 to 0 or 1. Without a number none is told.
        program = load(1, [read(X, 1), tell(X, 2), end()])
        self.assertEqual(ask(program, keep([]), FEWER)[-1], [1])
        self.assertEqual(ask(program, keep([5]), FEWER)[-1], [0])
        self.assertEqual(ask(program, keep([5]), keep([]), keep([6]), FEWER, FEWER)[-2:], [[2], [0]])

    def test_needed_for_a_change_told_by_how_alone(self):
        # The one change, node 0 to 0, waits where the program ends.
        program = load(1, [read(X, 1), end()])
        self.assertEqual(ask(program, keep([5]), FEWER)[-1], [0])
        self.assertEqual(ask(program, keep([]), FEWER)[-1], [1])
        self.assertEqual(ask(program, keep([5]), keep([5, 6]), FEWER)[-1], [1])

    def test_from_the_last_to_the_first(self):
        # Each two of the three tests go all ways and tell all that the three tell.
        rows = [read(X, 1), below(X, 1, 0, 2), below(X, 2, 0, 3), below(X, 3, 0, 0)]
        kept = [keep([0, 1]), keep([1, 2]), keep([2, 0])]
        program = load(1, rows)
        found = ask(program, *kept, who(1, 0), who(2, 0), who(3, 0), FEWER, who(1, 0), who(2, 0), who(3, 0))
        self.assertEqual(found[4:7], [[2, 0, 2], [2, 0, 1], [2, 1, 2]])
        self.assertEqual(found[7:], [[1], [1, 0], [2, 0, 1], [1, 1]])

    def test_dropping_makes_others_needful(self):
        found = ask(ONCE, keep([1]), keep([5]), keep([1]), keep([5]), FEWER, who(1, 0), who(1, 1))
        self.assertEqual(found[-3:], [[2], [1, 0], [1, 1]])

    def test_behind_fill(self):
        self.assertEqual(ask(STEPS, FILL, FEWER, WAYS, GONE)[1:4],
                         [[5], [0], [8, 2, 3, 4, 5, 6, 7, 8, 9]])


if __name__ == "__main__":
    unittest.main()
