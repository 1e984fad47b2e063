"""The corners that the document names, over all calls."""

import unittest

from helper import (
    CHANGES, FEWER, FILL, GONE, LIVES, MISSED, NEEDLESS, NEVER, STATE, WAYS, X, Y, Z, ask, below, change, copy, counted,
    drop, end, keep, kept, last, less, load, node, number_of, plain_changes, plain_ways, plainly, put, read, run, take,
    tell, tells, told, way, who, worth)


class Corners(unittest.TestCase):
    def test_a_way_gone_without_a_number(self):
        program = load(1, [below(X, 1, 1, 1), read(X, 0)])
        self.assertEqual(ask(program, way(0, 0), way(0, 1), run([]), FILL, who(0, 0), who(0, 1))[1:],
                         [[0], [1, 1], [1, 0, 0, 1, 0], [2], [2, 0, 1], [1, 1]])

    def test_v_compared_with_itself(self):
        program = load(1, [read(X, 1), less(X, X, 0, 2), end()])
        self.assertEqual(ask(program, way(1, 0), way(1, 1), WAYS, NEVER, run([4]))[1:],
                         [[-1], [1, 0], [1, 3], [1, 2], [0, 1, 0, 1, 3]])

    def test_a_number_that_has_to_lie_between_two_others(self):
        rows = [read(X, 1), read(Y, 2), less(X, Y, 3, 6), read(Z, 4), less(X, Z, 5, 6), less(Z, Y, 6, 6), end()]
        self.assertEqual(ask(load(3, rows), way(5, 0), way(5, 1))[1:], [[3, 0, 2, 1], [3, 0, 1, 1]])

    def test_no_number_lies_between_small_ones(self):
        rows = [put(X, 1, 1), put(Y, 2, 2), read(Z, 3), less(X, Z, 4, 5), less(Z, Y, 5, 5), end()]
        self.assertEqual(ask(load(3, rows), way(4, 0), way(4, 1))[1:], [[-1], [1, 2]])

    def test_room_again_and_again_between_two_others(self):
        # Y comes down towards X, however often.
        rows = [read(X, 1), read(Y, 2), less(X, Y, 3, 7), copy(Z, Y, 4), read(Y, 5), less(X, Y, 6, 7), less(Y, Z, 8, 7),
                end(), copy(Z, Y, 9), read(Y, 10), less(X, Y, 11, 7), less(Y, Z, 7, 7)]
        self.assertEqual(last(load(3, rows), way(11, 0)), [4, 0, 3, 2, 1])

    def test_numbers_that_come_down_one_by_one(self):
        rows = [read(X, 1)]
        for i in (1, 4, 7, 10, 13):
            rows += [copy(Y, X, i + 1), read(X, i + 2), less(X, Y, (i + 3) % 16, 0)]
        self.assertEqual(last(load(2, rows), way(15, 0)), [6, 5, 4, 3, 2, 1, 0])
        self.assertEqual(last(load(2, rows), way(9, 0)), [4, 3, 2, 1, 0])

    def test_small_numbers_come_down_three_times_at_most(self):
        rows = [read(X, 1), below(X, 4, 2, 0)]
        for i in (2, 5, 8, 11):
            rows += [copy(Y, X, i + 1), read(X, i + 2), less(X, Y, (i + 3) % 14, 0)]
        self.assertEqual(ask(load(2, rows), way(10, 0), way(13, 0), way(13, 1))[1:],
                         [[4, 3, 2, 1, 0], [-1], [5, 3, 2, 1, 0, 0]])

    def test_a_change_that_is_the_same_for_all_tests(self):
        # What Y holds is never looked at: of node 0 only the change to node 0 is told, by any test.
        program = load(2, [put(Y, 0, 1), end()])
        self.assertEqual(last(program, keep([]), FEWER), [0])
        self.assertEqual(last(program, keep([]), keep([3]), FEWER), [1])

    def test_ends_told_apart_by_how_alone(self):
        program = load(1, [read(X, 1), end()])
        self.assertEqual(last(program, keep([]), keep([2]), FEWER), [1])
        self.assertEqual(last(program, keep([2]), FEWER), [0])
        # Going round is told from ending by how alone, too.
        program = load(1, [tell(X, 1), end()])
        self.assertEqual(ask(program, keep([]), FEWER, keep([1]), FEWER)[1:], [[0], [0], [1], [1]])

    def test_telling_round_and_round(self):
        self.assertEqual(ask(load(1, [tell(X, 0)]), run([]), run([1, 2]))[1:], [[2, 0, 0, 0], [2, 0, 0, 0]])
        rows = [read(X, 1), tell(X, 2), tell(Y, 1)]
        self.assertEqual(ask(load(2, rows), run([]), run([6]))[1:], [[1, 0, 0, 0], [2, 1, 0, 0]])

    def test_how_often_it_is_told_round_and_round_tells_nothing_apart(self):
        # Both nodes tell X for ever: no change of them is told, so no test is needed for one.
        program = load(2, [tell(X, 1), tell(X, 0)])
        self.assertEqual(last(program, keep([]), keep([1]), FEWER), [2])

    def test_a_loop_without_a_read(self):
        rows = [read(X, 1), below(X, 3, 2, 4), below(Y, 1, 3, 1), put(Y, 1, 1), end()]
        self.assertEqual(ask(load(2, rows), run([1, 1]), run([3, 1]), WAYS, way(2, 1))[1:],
                         [[2, 1, 0, 3, 2, 4, 5], [0, 1, 0, 1, 3], [4, 2, 3, 4, 5], [1, 0]])

    def test_a_test_with_more_numbers_than_are_read(self):
        program = load(1, [read(X, 1), below(X, 2, 2, 2), end()])
        self.assertEqual(ask(program, run([0, 5, 5]), run([7, 0]), keep([7, 0, 0]), GONE)[1:],
                         [[0, 1, 0, 1, 2], [0, 1, 0, 1, 3], [0], [1, 3]])

    def test_three_variables_that_all_stand_apart(self):
        rows = [read(X, 1), read(Y, 2), read(Z, 3), below(Y, 4, 7, 4), less(Y, Z, 5, 7), less(Z, X, 6, 7),
                below(X, 1, 7, 7), end()]
        self.assertEqual(ask(load(3, rows), way(5, 0), way(6, 1), way(6, 0))[1:],
                         [[3, 6, 4, 5], [3, 6, 4, 5], [-1]])

    def test_a_fourth_number_stands_anywhere_to_three_that_stand_apart(self):
        # Z below X below Y, none of them small; then Z anew.
        rows = [read(X, 1), read(Y, 2), read(Z, 3), below(Z, 4, 11, 4), less(Z, X, 5, 11), less(X, Y, 6, 11), read(Z, 7)]
        above = rows + [less(Y, Z, 11, 11), end(), end(), end(), end()]
        self.assertEqual(ask(load(3, above), way(7, 0), way(7, 1))[1:], [[4, 5, 6, 4, 7], [4, 5, 6, 4, 0]])
        between = rows + [less(X, Z, 8, 11), less(Z, Y, 11, 11), end(), end(), end()]
        self.assertEqual(ask(load(3, between), way(8, 0), way(8, 1))[1:], [[4, 5, 7, 4, 6], [4, 5, 6, 4, 6]])
        under = rows + [below(Z, 4, 11, 8), less(Z, X, 11, 11), end(), end(), end()]
        self.assertEqual(ask(load(3, under), way(8, 0), way(8, 1))[1:], [[4, 5, 6, 4, 4], [4, 5, 6, 4, 5]])

    def test_a_way_that_only_a_number_of_4_or_more_goes(self):
        program = load(1, [read(X, 1), below(X, 4, 0, 2), end()])
        self.assertEqual(ask(program, way(1, 1), run([3]), run([4]), FILL, GONE)[1:],
                         [[1, 4], [1, 1, 0, 1, 2], [0, 1, 0, 1, 3], [2], [2, 2, 3]])

    def test_two_needless_tests_of_which_just_one_can_go(self):
        program = load(1, [read(X, 1), below(X, 4, 0, 2), end()])
        self.assertEqual(ask(program, keep([5]), keep([6]), FEWER, FEWER, GONE)[3:], [[1], [0], [1, 3]])


class CornersOverAllCalls(unittest.TestCase):
    def hold(self, variables, rows, *tests):
        """Asks every call, before and behind fill, fewer and takes, and holds it against plain answers."""
        program = load(variables, rows)
        changed = plain_changes(variables, rows)
        begin = [program] + [keep(test) for test in tests]
        looks = [LIVES, NEEDLESS, GONE, MISSED, WAYS, NEVER, CHANGES, STATE] + [worth(k) for k in range(len(tests) + 1)]
        lines = [begin + looks + [FILL] + looks + [FEWER] + looks, begin + [drop(0), FILL, drop(0)] + looks]
        for number in plain_ways(rows):
            lines.append(begin + [way(number // 2, number % 2), who(number // 2, number % 2), FILL, kept(len(tests))])
        for i in range(len(rows) + 1):
            lines.append(begin + [node(i), way(i, 2), who(i, 2)])
        for k in range(len(changed) + 1):
            lines.append(begin + [change(k), told(k)] + [tells(k, test) for test in tests])
        for k in range(0, len(changed), 3):
            back = plain_changes(variables, changed[k]).index(list(rows))
            lines.append(begin + looks + [run(tests[0]), take(k), run(tests[0])] + looks + [take(back)] + looks)
            lines.append(begin + [take(k), FILL, LIVES, FEWER, LIVES, GONE, take(back), LIVES, MISSED, NEEDLESS])
        for line in lines:
            self.assertLessEqual(len(line), 60)
            self.assertEqual(ask(*line), plainly(*line), line)

    def test_a_way_gone_without_a_number(self):
        rows = [below(X, 1, 1, 1), read(X, 0)]
        self.hold(1, rows, [], [0], [5, 1])
        # What it asks of X at first is seen at once: below 1 or below more is the same there.
        found = ask(load(1, rows), keep([]), LIVES, worth(0), NEEDLESS)
        # Only to go round at node 0 by way 0 is told without a number.
        k = number_of(1, rows, 0, "a", 0)
        self.assertEqual(found[2:], [counted(n for n in range(6) if n != k), [1], [0]])

    def test_v_compared_with_itself(self):
        rows = [read(X, 1), less(X, X, 0, 2), end()]
        self.hold(2, rows, [], [4], [0, 1])
        # By way 0 it never goes, so where that leads is never told; compared with Y, which holds 0, it's the same.
        same = [number_of(2, rows, 1, "a", n) for n in (1, 2)] + [number_of(2, rows, 1, "w", Y)]
        found = ask(load(2, rows), *[tells(k, [n]) for k in same for n in (0, 1, 9)])
        self.assertEqual(found[1:], [[0]] * 9)
        # Y compared with X is another thing.
        k = number_of(2, rows, 1, "v", Y)
        self.assertEqual(ask(load(2, rows), tells(k, [0]), tells(k, [1]))[1:], [[0], [1]])

    def test_a_number_that_has_to_lie_between_two_others(self):
        rows = [read(X, 1), read(Y, 2), less(X, Y, 3, 6), read(Z, 4), less(X, Z, 5, 6), less(Z, Y, 7, 6), end(), tell(Z, 6)]
        self.hold(3, rows, [0, 2, 1], [5, 9, 9], [5, 9, 5], [1, 1])
        # To go straight on to node 6 from node 5 is told by such a number alone.
        k = number_of(3, rows, 5, "a", 6)
        found = ask(load(3, rows), tells(k, [5, 9, 9]), tells(k, [5, 9, 5]), tells(k, [5, 9, 7]), FILL, told(k))
        self.assertEqual(found[1:4], [[0], [0], [1]])
        self.assertEqual(found[4:], plainly(load(3, rows), FILL, told(k))[1:])

    def test_numbers_that_come_down_one_by_one(self):
        rows = [read(X, 1)]
        for i in (1, 4, 7):
            rows += [copy(Y, X, i + 1), read(X, i + 2), less(X, Y, i + 3, 0)]
        rows += [tell(Y, 0)]
        self.hold(2, rows, [5, 4, 3, 2, 1], [9, 8, 7], [3, 2, 1, 0])
        k = number_of(2, rows, 10, "v", X)
        found = ask(load(2, rows), *[tells(k, test) for test in ([3, 2, 1, 0], [3, 2, 1], [3, 2, 2, 0], [9, 7, 5, 3])])
        self.assertEqual(found[1:], [[1], [0], [0], [1]])

    def test_a_change_that_is_the_same_for_all_tests(self):
        # What Y holds is never looked at.
        rows = [put(Y, 0, 1), read(X, 2), tell(X, 3), end()]
        self.hold(2, rows, [], [1], [2, 2])
        same = [number_of(2, rows, 0, "c", n) for n in (1, 2, 3)] + [number_of(2, rows, 0, "v", X)]
        found = ask(load(2, rows), FILL, keep([]), keep([0]), keep([7, 7]), LIVES, *[told(k) for k in same],
                    *[tells(k, [n]) for k in same for n in (0, 9)], take(same[0]), LIVES)
        self.assertEqual(found[5][1:], sorted(same))
        self.assertEqual(found[6:18], [[-33]] * 4 + [[0]] * 8)
        # Behind the take the same changes live, c as it was among them.
        self.assertEqual(found[19], found[5])

    def test_ends_told_apart_by_how_alone(self):
        rows = [read(X, 1), end()]
        self.hold(1, rows, [], [2], [3, 3])
        self.assertEqual(ask(load(1, rows), keep([]), told(0), keep([2]), told(0), worth(0), worth(1), tells(0, [2, 2]))[2:],
                         [[-33], [1], [1], [0], [1], [1]])
        # Waiting, ending and going round, and nothing ever told.
        rows = [read(X, 1), below(X, 2, 2, 0), end()]
        self.hold(1, rows, [0], [2], [5, 0])
        ends, waits, round_again = (number_of(1, rows, 1, "b", 2), number_of(1, rows, 1, "a", 0),
                                    number_of(1, rows, 1, "a", 1))
        self.assertEqual(ask(load(1, rows), keep([0]), keep([2]), told(ends), told(waits), told(round_again))[3:],
                         [[1], [0], [0]])

    def test_telling_round_and_round(self):
        # To tell X or Y, here or there, for ever: nothing is answered of it.
        rows = [tell(X, 1), tell(Y, 0)]
        self.hold(2, rows, [], [3])
        found = ask(load(2, rows), keep([]), keep([1, 2]), LIVES, worth(0), NEEDLESS, FEWER)
        self.assertEqual(found[3:], [[4, 0, 1, 2, 3], [0], [2, 0, 1], [2]])
        # What is told till the last read counts, what is told behind it doesn't.
        rows = [read(X, 1), tell(X, 2), read(Y, 3), tell(Y, 3)]
        self.hold(2, rows, [], [6], [6, 7], [0, 0])
        ahead, behind = number_of(2, rows, 1, "v", Y), number_of(2, rows, 3, "v", X)
        found = ask(load(2, rows), *[tells(k, test) for k in (ahead, behind) for test in ([6], [6, 7], [0, 7])])
        self.assertEqual(found[1:], [[1], [1], [0], [0], [0], [0]])
        # To end there tells what is told behind it.
        rows = [read(X, 1), tell(X, 1), end()]
        self.hold(1, rows, [], [6])
        k = number_of(1, rows, 1, "a", 2)
        self.assertEqual(ask(load(1, rows), tells(k, []), tells(k, [6]), take(k), run([6]))[1:],
                         [[0], [1], [1], [0, 1, 1, 6, 0]])

    def test_a_loop_without_a_read(self):
        rows = [read(X, 1), below(X, 3, 2, 4), below(Y, 1, 3, 1), put(Y, 1, 1), end()]
        self.hold(2, rows, [1, 1], [3, 1], [])
        # The loop is gone through once more by some of these, and goes round all the same.
        same = [number_of(2, rows, 3, "c", n) for n in (2, 3)] + [number_of(2, rows, 2, "c", n) for n in (2, 3, 4)]
        self.assertEqual(ask(load(2, rows), *[tells(k, [1]) for k in same])[1:], [[0]] * 5)

    def test_a_test_with_more_numbers_than_are_read(self):
        rows = [read(X, 1), below(X, 2, 2, 2), end()]
        self.hold(1, rows, [0, 5, 5], [7, 0], [7])
        # What the program leaves a change may read.
        k = number_of(1, rows, 1, "a", 0)
        self.assertEqual(ask(load(1, rows), tells(k, [0]), tells(k, [0, 5]), tells(k, [0, 5, 0]))[1:], [[1], [0], [0]])

    def test_three_variables_that_all_stand_apart(self):
        rows = [read(X, 1), read(Y, 2), read(Z, 3), below(Y, 4, 7, 4), less(Y, Z, 5, 7), less(Z, X, 6, 7), tell(X, 7), end()]
        self.hold(3, rows, [6, 4, 5], [9, 4, 9], [1, 2, 3])
        # Each comparison of two of them is told from each other by some order of three.
        orders = [(6, 5, 4), (6, 4, 5), (5, 6, 4), (5, 4, 6), (4, 6, 5), (4, 5, 6)]
        for k in range(len(plain_changes(3, rows))):
            calls = [load(3, rows)] + [tells(k, test) for test in orders]
            self.assertEqual(ask(*calls), plainly(*calls))

    def test_a_way_that_only_a_number_of_4_or_more_goes(self):
        rows = [read(X, 1), below(X, 4, 0, 2), end()]
        self.hold(1, rows, [3], [4], [0, 1, 2, 3])
        below_3, ends = number_of(1, rows, 1, "c", 3), number_of(1, rows, 1, "a", 2)
        self.assertEqual(ask(load(1, rows), tells(below_3, [3]), tells(below_3, [4]), tells(below_3, [2]), FILL,
                             told(below_3), told(ends))[1:],
                         [[1], [0], [0], [2], [-33], [0]])
        # Below 3 instead, 3 does.
        self.assertEqual(ask(load(1, rows), way(1, 1), take(below_3), way(1, 1))[1:], [[1, 4], [1], [1, 3]])

    def test_two_needless_tests_of_which_just_one_can_go(self):
        rows = [read(X, 1), below(X, 4, 0, 2), end()]
        self.hold(1, rows, [5], [6], [5])
        self.assertEqual(ask(load(1, rows), keep([5]), keep([6]), NEEDLESS, FEWER, NEEDLESS, kept(0), STATE)[3:],
                         [[2, 0, 1], [1], [0], [1, 5], [0, 1, 3, 2, 1]])
        # Behind a take it may be otherwise: what is told is told apart.
        rows = [read(X, 1), read(Y, 2), tell(Y, 3), end()]
        k = number_of(2, rows, 2, "v", X)
        self.assertEqual(ask(load(2, rows), keep([0, 1]), keep([1, 0]), NEEDLESS, take(k), NEEDLESS, FEWER)[3:],
                         plainly(load(2, rows), keep([0, 1]), keep([1, 0]), NEEDLESS, take(k), NEEDLESS, FEWER)[3:])


if __name__ == "__main__":
    unittest.main()
