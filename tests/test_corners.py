"""The corners that the document names, as far as they belong to the calls that are there."""

import unittest

from helper import (
    FEWER, FILL, GONE, NEVER, WAYS, X, Y, Z, ask, below, copy, end, keep, last, less, load, put, read, run, tell, way,
    who)


class Corners(unittest.TestCase):
    def test_a_way_gone_without_a_number(self):
        program = load(1, [below(X, 1, 1, 1), read(X, 0)])
        self.assertEqual(ask(program, way(0, 0), way(0, 1), run([]), FILL, who(0, 0), who(0, 1))[1:],
                         [[0], [1, 1], [1, 0, 0, 1, 0], [2], [2, 0, 1], [1, 1]])

    def test_v_compared_with_itself(self):
        program = load(1, [read(X, 1), less(X, X, 0, 2), end()])
        self.assertEqual(ask(program, way(1, 0), way(1, 1), WAYS, NEVER, run([4]))[1:],
                         [[-1], [1, 0], [1, 3], [1, 2], [0, 1, 0, 1, 3]])

    def test_a_number_that_has_to_lie_between_two_others(self):
        rows = [read(X, 1), read(Y, 2), less(X, Y, 3, 6), read(Z, 4), less(X, Z, 5, 6), less(Z, Y, 6, 6), end()]
        self.assertEqual(ask(load(3, rows), way(5, 0), way(5, 1))[1:], [[3, 0, 2, 1], [3, 0, 1, 1]])

    def test_no_number_lies_between_small_ones(self):
        rows = [put(X, 1, 1), put(Y, 2, 2), read(Z, 3), less(X, Z, 4, 5), less(Z, Y, 5, 5), end()]
        self.assertEqual(ask(load(3, rows), way(4, 0), way(4, 1))[1:], [[-1], [1, 2]])

    def test_room_again_and_again_between_two_others(self):
        # Y comes down towards X, however often.
        rows = [read(X, 1), read(Y, 2), less(X, Y, 3, 7), copy(Z, Y, 4), read(Y, 5), less(X, Y, 6, 7), less(Y, Z, 8, 7),
                end(), copy(Z, Y, 9), read(Y, 10), less(X, Y, 11, 7), less(Y, Z, 7, 7)]
        self.assertEqual(last(load(3, rows), way(11, 0)), [4, 0, 3, 2, 1])

    def test_numbers_that_come_down_one_by_one(self):
        rows = [read(X, 1)]
        for i in (1, 4, 7, 10, 13):
            rows += [copy(Y, X, i + 1), read(X, i + 2), less(X, Y, (i + 3) % 16, 0)]
        self.assertEqual(last(load(2, rows), way(15, 0)), [6, 5, 4, 3, 2, 1, 0])
        self.assertEqual(last(load(2, rows), way(9, 0)), [4, 3, 2, 1, 0])

    def test_small_numbers_come_down_three_times_at_most(self):
        rows = [read(X, 1), below(X, 4, 2, 0)]
        for i in (2, 5, 8, 11):
            rows += [copy(Y, X, i + 1), read(X, i + 2), less(X, Y, (i + 3) % 14, 0)]
        self.assertEqual(ask(load(2, rows), way(10, 0), way(13, 0), way(13, 1))[1:],
                         [[4, 3, 2, 1, 0], [-1], [5, 3, 2, 1, 0, 0]])

    def test_a_change_that_is_the_same_for_all_tests(self):
        # What Y holds is never looked at: of node 0 only the change to node 0 is told, by any test.
        program = load(2, [put(Y, 0, 1), end()])
        self.assertEqual(last(program, keep([]), FEWER), [0])
        self.assertEqual(last(program, keep([]), keep([3]), FEWER), [1])

    def test_ends_told_apart_by_how_alone(self):
        program = load(1, [read(X, 1), end()])
        self.assertEqual(last(program, keep([]), keep([2]), FEWER), [1])
        self.assertEqual(last(program, keep([2]), FEWER), [0])
        # Going round is told from ending by how alone, too.
        program = load(1, [tell(X, 1), end()])
        self.assertEqual(ask(program, keep([]), FEWER, keep([1]), FEWER)[1:], [[0], [0], [1], [1]])

    def test_telling_round_and_round(self):
        self.assertEqual(ask(load(1, [tell(X, 0)]), run([]), run([1, 2]))[1:], [[2, 0, 0, 0], [2, 0, 0, 0]])
        rows = [read(X, 1), tell(X, 2), tell(Y, 1)]
        self.assertEqual(ask(load(2, rows), run([]), run([6]))[1:], [[1, 0, 0, 0], [2, 1, 0, 0]])

    def test_how_often_it_is_told_round_and_round_tells_nothing_apart(self):
        # Both nodes tell X for ever: no change of them is told, so no test is needed for one.
        program = load(2, [tell(X, 1), tell(X, 0)])
        self.assertEqual(last(program, keep([]), keep([1]), FEWER), [2])

    def test_a_loop_without_a_read(self):
        rows = [read(X, 1), below(X, 3, 2, 4), below(Y, 1, 3, 1), put(Y, 1, 1), end()]
        self.assertEqual(ask(load(2, rows), run([1, 1]), run([3, 1]), WAYS, way(2, 1))[1:],
                         [[2, 1, 0, 3, 2, 4, 5], [0, 1, 0, 1, 3], [4, 2, 3, 4, 5], [1, 0]])

    def test_a_test_with_more_numbers_than_are_read(self):
        program = load(1, [read(X, 1), below(X, 2, 2, 2), end()])
        self.assertEqual(ask(program, run([0, 5, 5]), run([7, 0]), keep([7, 0, 0]), GONE)[1:],
                         [[0, 1, 0, 1, 2], [0, 1, 0, 1, 3], [0], [1, 3]])

    def test_three_variables_that_all_stand_apart(self):
        rows = [read(X, 1), read(Y, 2), read(Z, 3), below(Y, 4, 7, 4), less(Y, Z, 5, 7), less(Z, X, 6, 7),
                below(X, 1, 7, 7), end()]
        self.assertEqual(ask(load(3, rows), way(5, 0), way(6, 1), way(6, 0))[1:],
                         [[3, 6, 4, 5], [3, 6, 4, 5], [-1]])

    def test_a_fourth_number_stands_anywhere_to_three_that_stand_apart(self):
        # Z below X below Y, none of them small; then Z anew.
        rows = [read(X, 1), read(Y, 2), read(Z, 3), below(Z, 4, 11, 4), less(Z, X, 5, 11), less(X, Y, 6, 11), read(Z, 7)]
        above = rows + [less(Y, Z, 11, 11), end(), end(), end(), end()]
        self.assertEqual(ask(load(3, above), way(7, 0), way(7, 1))[1:], [[4, 5, 6, 4, 7], [4, 5, 6, 4, 0]])
        between = rows + [less(X, Z, 8, 11), less(Z, Y, 11, 11), end(), end(), end()]
        self.assertEqual(ask(load(3, between), way(8, 0), way(8, 1))[1:], [[4, 5, 7, 4, 6], [4, 5, 6, 4, 6]])
        under = rows + [below(Z, 4, 11, 8), less(Z, X, 11, 11), end(), end(), end()]
        self.assertEqual(ask(load(3, under), way(8, 0), way(8, 1))[1:], [[4, 5, 6, 4, 4], [4, 5, 6, 4, 5]])

    def test_a_way_that_only_a_number_of_4_or_more_goes(self):
        program = load(1, [read(X, 1), below(X, 4, 0, 2), end()])
        self.assertEqual(ask(program, way(1, 1), run([3]), run([4]), FILL, GONE)[1:],
                         [[1, 4], [1, 1, 0, 1, 2], [0, 1, 0, 1, 3], [2], [2, 2, 3]])

    def test_two_needless_tests_of_which_just_one_can_go(self):
        program = load(1, [read(X, 1), below(X, 4, 0, 2), end()])
        self.assertEqual(ask(program, keep([5]), keep([6]), FEWER, FEWER, GONE)[3:], [[1], [0], [1, 3]])


if __name__ == "__main__":
    unittest.main()
