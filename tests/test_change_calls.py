"""Point 4: changes, change, take, test, node, state."""

import unittest

from helper import (
    CHANGES, FEWER, FILL, GONE, LARGEST, LIVES, MISSED, NEEDLESS, NEVER, STATE, WAYS, X, Y, Z, ask, below, change,
    changed_place, copy, drop, end, keep, kept, last, less, load, node, number_of, plain_changes, plainly, put, read, run,
    take, tell, tells, told, way, who, worth)

# Reads one number, tells it if it's below 3, and ends. Its changes: node 0 to 0, 2, 3; node 1 below
# 1, 2, 4, by way 0 to 0, 1, 3, by way 1 to 0, 1, 2; node 2 to 0, 1, 2.
ROWS = [read(X, 1), below(X, 3, 2, 3), tell(X, 3), end()]
ONCE = load(1, ROWS)

# A node of each kind, for programs of any size; what the kind doesn't look at is large and each another.
KINDS = {
    0: (0, LARGEST, LARGEST - 1, LARGEST - 2, LARGEST - 3, LARGEST - 4),
    1: (1, 0, LARGEST - 1, LARGEST - 2, 0, LARGEST - 4),
    2: (2, 0, LARGEST - 1, 1, 0, LARGEST - 4),
    3: (3, 0, 0, LARGEST - 2, 0, LARGEST - 4),
    4: (4, 0, 0, LARGEST - 2, 0, 0),
    5: (5, 0, LARGEST - 1, 2, 0, 0),
    6: (6, 0, LARGEST - 1, LARGEST - 2, 0, LARGEST - 4),
}
# How many changes a node of each kind has, of so many variables and nodes.
COUNTS = {
    0: lambda v, n: 0,
    1: lambda v, n: v - 1 + n - 1,
    2: lambda v, n: v - 1 + 3 + n - 1,
    3: lambda v, n: 2 * (v - 1) + n - 1,
    4: lambda v, n: 2 * (v - 1) + 2 * (n - 1),
    5: lambda v, n: v - 1 + 3 + 2 * (n - 1),
    6: lambda v, n: v - 1 + n - 1,
}


def all_answered(variables, rows):
    """All changes, as changes and change answer them, several lines if need be."""
    count = last(load(variables, rows), CHANGES)[0]
    found = []
    for first in range(0, count + 1, 58):
        numbers = range(first, min(first + 58, count))
        found += ask(load(variables, rows), *[change(k) for k in numbers])[1:]
    return found


class Changes(unittest.TestCase):
    def test_each_kind_with_few_and_many_variables_and_nodes(self):
        for kind, row in KINDS.items():
            for variables in (1, 2, 3):
                for size in (1, 2, 5, 16):
                    for at in {0, size // 2, size - 1}:
                        rows = [KINDS[0]] * size
                        rows[at] = row
                        with self.subTest(kind=kind, variables=variables, size=size, at=at):
                            found = all_answered(variables, rows)
                            self.assertEqual(len(found), COUNTS[kind](variables, size))
                            wanted = [[at] + list(changed[at]) for changed in plain_changes(variables, rows)]
                            self.assertEqual(found, wanted)

    def test_each_once_and_none_as_the_node_is(self):
        rows = [read(X, 1), put(Y, 2, 2), copy(X, Z, 3), less(X, Y, 4, 5), below(Y, 4, 5, 6), tell(X, 6), end()]
        found = [tuple(answer) for answer in all_answered(3, rows)]
        self.assertEqual(len(found), len(set(found)))
        for i, *row in found:
            self.assertNotEqual(tuple(row), rows[i])
            self.assertEqual(sum(a != b for a, b in zip(row, rows[i])), 1)

    def test_in_order(self):
        answered = [answer[:1] + answer[2:] for answer in all_answered(1, ROWS)]
        big = LARGEST
        self.assertEqual(answered, [
            [0, 0, big, big, 0, big], [0, 0, big, big, 2, big], [0, 0, big, big, 3, big],
            [1, 0, big, 1, 2, 3], [1, 0, big, 2, 2, 3], [1, 0, big, 4, 2, 3],
            [1, 0, big, 3, 0, 3], [1, 0, big, 3, 1, 3], [1, 0, big, 3, 3, 3],
            [1, 0, big, 3, 2, 0], [1, 0, big, 3, 2, 1], [1, 0, big, 3, 2, 2],
            [2, 0, big, big, 0, big], [2, 0, big, big, 1, big], [2, 0, big, big, 2, big]])

    def test_v_then_w_then_a_then_b(self):
        rows = [less(Y, Z, 1, 0), end()]
        self.assertEqual(all_answered(3, rows), [
            [0, 4, 0, 2, LARGEST, 1, 0], [0, 4, 2, 2, LARGEST, 1, 0],
            [0, 4, 1, 0, LARGEST, 1, 0], [0, 4, 1, 1, LARGEST, 1, 0],
            [0, 4, 1, 2, LARGEST, 0, 0], [0, 4, 1, 2, LARGEST, 1, 1]])

    def test_v_then_c_then_a(self):
        self.assertEqual(all_answered(2, [put(Y, 0, 0), end()]), [
            [0, 2, 0, LARGEST, 0, 0, LARGEST],
            [0, 2, 1, LARGEST, 1, 0, LARGEST], [0, 2, 1, LARGEST, 2, 0, LARGEST], [0, 2, 1, LARGEST, 3, 0, LARGEST],
            [0, 2, 1, LARGEST, 0, 1, LARGEST]])

    def test_none(self):
        for rows in ([end()], [end()] * 16):
            self.assertEqual(ask(load(3, rows), CHANGES, change(0), take(0), told(0), tells(0, []), LIVES)[1:],
                             [[0], [-2], [-2], [-2], [-2], [0]])
        self.assertEqual(ask(load(1, [read(X, 0)]), CHANGES, change(0), LIVES)[1:], [[0], [-2], [0]])

    def test_the_most(self):
        rows = [less(i % 3, (i + 1) % 3, (i + 1) % 16, 0) for i in range(16)]
        self.assertEqual(ask(load(3, rows), CHANGES, change(543), change(544))[1:],
                         [[544], [15, 4, 0, 1, LARGEST, 0, 15], [-2]])
        rows = [below(i % 3, 1 + i % 4, (i + 1) % 16, 0) for i in range(16)]
        self.assertEqual(ask(load(3, rows), CHANGES, change(559), change(560))[1:],
                         [[560], [15, 5, 0, LARGEST, 4, 0, 15], [-2]])

    def test_none_such(self):
        for k in (15, 16, 560, LARGEST):
            self.assertEqual(ask(ONCE, change(14), change(k), take(k), told(k), tells(k, [1]))[1:],
                             [[2, 6, 0, LARGEST, LARGEST, 2, LARGEST], [-2], [-2], [-2], [-2]], k)

    def test_a_change_is_only_shown(self):
        self.assertEqual(ask(ONCE, change(5), node(1), change(5), CHANGES, run([3]))[1:], [
            [1, 5, 0, LARGEST, 4, 2, 3], [0, 5, 0, LARGEST, 3, 2, 3], [1, 5, 0, LARGEST, 4, 2, 3], [15], [0, 1, 0, 1, 3]])


class Take(unittest.TestCase):
    # Behind this take 3 is told, too.
    below_4 = number_of(1, ROWS, 1, "c", 4)

    def test_the_number_of_the_changed_node(self):
        for k, changed in enumerate(plain_changes(1, ROWS)):
            found = ask(ONCE, take(k), *[node(i) for i in range(4)], STATE)
            self.assertEqual(found[1], [changed_place(ROWS, changed)])
            self.assertEqual(found[2:6], [[0] + list(row) for row in changed])
            self.assertEqual(found[6], [0, 1, 4, 2, 0])

    def test_what_is_run_is_the_changed_program(self):
        found = ask(ONCE, run([3]), keep([3]), take(self.below_4), run([3]), run([4]), GONE, kept(0))
        self.assertEqual(found[1:], [[0, 1, 0, 1, 3], [0], [1], [0, 1, 1, 3, 1, 2], [0, 1, 0, 1, 3], [1, 2], [1, 3]])

    def test_changes_are_those_of_the_changed_program(self):
        self.assertEqual(ask(ONCE, change(5), take(5), change(5), CHANGES)[1:],
                         [[1, 5, 0, LARGEST, 4, 2, 3], [1], [1, 5, 0, LARGEST, 3, 2, 3], [15]])

    def test_ways_of_the_changed_program(self):
        # Node 1's way 0 leads to the end and no longer to node 2.
        rows = [read(X, 1), below(X, 2, 2, 3), below(X, 1, 3, 3), end()]
        k = number_of(1, rows, 1, "a", 3)
        looks = [WAYS, NEVER, way(2, 0), way(2, 1), GONE, MISSED, who(2, 0), who(1, 0)]
        found = ask(load(1, rows), keep([0]), *looks, take(k), *looks)
        self.assertEqual(found[2:10], [[4, 2, 3, 4, 5], [0], [1, 0], [1, 1], [2, 2, 4], [2, 3, 5], [1, 0], [1, 0]])
        self.assertEqual(found[11:], [[2, 2, 3], [2, 4, 5], [-1], [-1], [1, 2], [1, 3], [0], [1, 0]])

    def test_kept_tests_stay(self):
        found = ask(ONCE, keep([1]), keep([]), keep([9, 9]), take(0), take(3), kept(0), kept(1), kept(2), kept(3), STATE)
        self.assertEqual(found[6:], [[1, 1], [0], [2, 9, 9], [-2], [0, 1, 4, 2, 3]])

    def test_none_such_changes_nothing(self):
        looks = [LIVES, told(3), CHANGES, GONE, STATE] + [node(i) for i in range(4)]
        found = ask(ONCE, keep([1]), *looks, take(15), take(LARGEST), *looks)
        self.assertEqual(found[11:13], [[-2], [-2]])
        self.assertEqual(found[2:11], found[13:])

    def test_a_load_behind_a_take(self):
        looks = [STATE, CHANGES, LIVES, run([3]), GONE] + [node(i) for i in range(4)]
        found = ask(ONCE, *looks, keep([3]), take(self.below_4), LIVES, load(1, []), run([3]), ONCE, *looks)
        self.assertEqual(found[13:15], [[-22], [0, 1, 1, 3, 1, 2]])
        self.assertEqual(found[1:10], found[16:])

    def test_changed_back(self):
        calls = [ONCE, keep([1]), keep([5]), LIVES, take(5), LIVES, take(5), LIVES]
        found = ask(*calls)
        self.assertEqual(found[3], [2, 4, 5])
        self.assertEqual(found, plainly(*calls))
        self.assertEqual(found[7], found[3])

    def test_a_change_of_the_kind_of_end_is_none(self):
        # There are as many variables, nodes and ways as before, whatever is taken.
        found = ask(ONCE, *[take(k) for k in range(15)], STATE)
        self.assertEqual(found[-1], [0, 1, 4, 2, 0])

    def test_every_call_behind_a_take_is_as_behind_a_load_of_the_changed_program(self):
        rows = [read(X, 1), read(Y, 2), less(X, Y, 3, 4), tell(Y, 0), below(X, 3, 5, 6), copy(X, Y, 2), end()]
        tests = [[], [1, 2], [2, 1, 3], [5, 4, 4], [7, 7, 9]]
        looks = [
            run([1, 2]), run([3, 2, 1]), way(2, 0), way(4, 1), WAYS, NEVER, GONE, MISSED, who(2, 1), who(4, 0), CHANGES,
            change(9), told(4), told(20), tells(7, [3, 1]), LIVES, worth(2), NEEDLESS, kept(4), node(2), STATE]
        for more in ([FEWER, LIVES, GONE, STATE], [FILL, LIVES, kept(5), STATE]):
            for k, changed in enumerate(plain_changes(2, rows)):
                kept_ones = [keep(test) for test in tests]
                found = ask(load(2, rows), *kept_ones, *looks, take(k), *looks, *more)
                self.assertEqual(found[-25:], ask(load(2, changed), *kept_ones, *looks, *more)[-25:], k)

    def test_all_is_as_before_once_it_is_changed_back(self):
        rows = [read(X, 1), less(Y, X, 2, 3), put(Y, 2, 0), below(X, 2, 4, 5), tell(X, 0), end()]
        looks = [LIVES, NEEDLESS, worth(0), worth(1), GONE, MISSED, WAYS, NEVER, way(3, 1), who(1, 0), told(9), CHANGES]
        for k, changed in enumerate(plain_changes(2, rows)):
            back = plain_changes(2, changed).index(rows)
            found = ask(load(2, rows), keep([3, 1]), keep([1, 0]), *looks, take(k), *looks, take(back), *looks)
            self.assertEqual(found[3:15], found[29:], k)

    def test_several_takes_in_a_row(self):
        calls = [ONCE, keep([2]), keep([3])]
        for k in (5, 11, 0, 7, 14, 2, 9):
            calls += [take(k), LIVES, run([2, 3]), worth(0)]
        self.assertEqual(ask(*calls), plainly(*calls))

    def test_fill_and_fewer_behind_a_take(self):
        calls = [ONCE, FILL, take(5), FILL, STATE, kept(0), kept(1), kept(2), FEWER, STATE, LIVES]
        found = ask(*calls)
        # [0] and [3] go both ways; behind the take [3] goes by 0, and [4] is kept more.
        self.assertEqual(found[1:9], [[2], [1], [1], [0, 1, 4, 2, 3], [1, 0], [1, 3], [1, 4], [1]])
        self.assertEqual(found, plainly(*calls))


class KeptTests(unittest.TestCase):
    def test_tests_that_were_kept(self):
        long = [k * 16777216 for k in range(256)]
        found = ask(ONCE, keep([]), keep([LARGEST, 0]), keep(long), keep([7]), *[kept(k) for k in range(4)])
        self.assertEqual(found[5:], [[0], [2, LARGEST, 0], [256] + long, [1, 7]])

    def test_tests_that_fill_kept(self):
        rows = [read(X, 1), read(Y, 2), less(Y, X, 3, 4), end(), end()]
        self.assertEqual(ask(load(2, rows), keep([9]), FILL, kept(0), kept(1), kept(2), kept(3))[2:],
                         [[2], [1, 9], [2, 1, 0], [2, 0, 0], [-2]])

    def test_behind_drop_and_fewer(self):
        found = ask(ONCE, keep([1]), keep([2]), keep([2]), keep([3]), drop(0), kept(0), kept(2), kept(3), FEWER, kept(0),
                    kept(1), kept(2))
        self.assertEqual(found[5:], [[3], [1, 2], [1, 3], [-2], [1], [1, 2], [1, 3], [-2]])

    def test_none_such(self):
        self.assertEqual(ask(ONCE, kept(0), keep([1]), kept(1), kept(LARGEST), kept(0))[1:],
                         [[-2], [0], [-2], [-2], [1, 1]])
        self.assertEqual(ask(ONCE, *[keep([k]) for k in range(32)], kept(31), kept(32))[-2:], [[1, 31], [-2]])

    def test_a_refused_test_is_not_there(self):
        self.assertEqual(ask(ONCE, keep([1] * 257), kept(0), STATE)[1:], [[-22], [-2], [0, 1, 4, 2, 0]])


class Nodes(unittest.TestCase):
    def test_as_loaded(self):
        rows = list(KINDS.values())
        found = ask(load(3, rows), *[node(i) for i in range(8)])
        self.assertEqual(found[1:], [[0] + list(row) for row in rows] + [[-2]])

    def test_before_and_after_a_take(self):
        self.assertEqual(ask(ONCE, node(1), take(9), node(1), node(0), take(9), node(1))[1:], [
            [0, 5, 0, LARGEST, 3, 2, 3], [1], [0, 5, 0, LARGEST, 3, 2, 0], [0, 1, 0, LARGEST, LARGEST, 1, LARGEST],
            [1], [0, 5, 0, LARGEST, 3, 2, 1]])

    def test_none_such(self):
        for i in (4, 5, 16, 17, LARGEST):
            self.assertEqual(ask(ONCE, node(3), node(i))[1:], [[0, 0] + [LARGEST] * 5, [-2]], i)
        self.assertEqual(ask(load(1, [end()] * 16), node(15), node(16))[1:], [[0, 0] + [LARGEST] * 5, [-2]])


class State(unittest.TestCase):
    def test_variables_nodes_and_ways(self):
        self.assertEqual(last(load(1, [end()]), STATE), [0, 1, 1, 0, 0])
        self.assertEqual(last(load(3, [less(X, Y, 0, 0)] * 16), STATE), [0, 3, 16, 32, 0])
        self.assertEqual(last(load(2, [less(X, Y, 0, 1), read(X, 2), below(Y, 4, 0, 0)]), STATE), [0, 2, 3, 4, 0])

    def test_before_and_after_each_call_that_keeps_or_drops(self):
        found = ask(ONCE, STATE, keep([1]), STATE, keep([1]), STATE, FILL, STATE, drop(0), STATE, FEWER, STATE, take(5),
                    STATE, keep([0] * 257), STATE, drop(7), STATE, ONCE, STATE)
        self.assertEqual([answer[4] for answer in found[1::2]], [0, 1, 2, 3, 2, 2, 2, 2, 2, 0])
        self.assertEqual({tuple(answer[:4]) for answer in found[1::2]}, {(0, 1, 4, 2)})

    def test_as_many_as_may_be_kept(self):
        self.assertEqual(ask(ONCE, *([keep([1])] * 33), STATE, FEWER, STATE)[-4:],
                         [[-28], [0, 1, 4, 2, 32], [31], [0, 1, 4, 2, 1]])


if __name__ == "__main__":
    unittest.main()
