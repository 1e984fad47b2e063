"""The changes inside the program, on which needless tests hang, held against plain ones."""

import random
import unittest

from helper import X, Y, below, copy, end, less, plain_changes, plain_told, put, random_program, read, tell
from leasttests.bits import numbers_of
from leasttests.changes import all_changes, changed_nodes
from leasttests.program import make_program
from leasttests.study import Study, every_change, known_apart


def program_of(variables, rows):
    return make_program(variables, [n for row in rows for n in row])


def told_by(variables, rows, *tests):
    study = Study(program_of(variables, rows))
    return [numbers_of(known_apart(study, tuple(test), every_change(study))) for test in tests]


class Changes(unittest.TestCase):
    def test_of_each_kind_in_order(self):
        rows = [read(X, 1), put(Y, 2, 2), copy(X, Y, 3), less(X, Y, 4, 5), below(Y, 4, 5, 6), tell(X, 6), end()]
        found = all_changes(program_of(2, rows))
        others = {i: [n for n in range(7) if n != i] for i in range(7)}
        wanted = (
            [(0, 1, 1)] + [(0, 4, n) for n in others[1]]
            + [(1, 1, 0)] + [(1, 3, n) for n in (0, 1, 3)] + [(1, 4, n) for n in others[2]]
            + [(2, 1, 1), (2, 2, 0)] + [(2, 4, n) for n in others[3]]
            + [(3, 1, 1), (3, 2, 0)] + [(3, 4, n) for n in others[4]] + [(3, 5, n) for n in others[5]]
            + [(4, 1, 0)] + [(4, 3, n) for n in (1, 2, 3)] + [(4, 4, n) for n in others[5]]
            + [(4, 5, n) for n in others[6]]
            + [(5, 1, 1)] + [(5, 4, n) for n in others[6]])
        self.assertEqual(found, wanted)

    def test_none(self):
        self.assertEqual(all_changes(program_of(3, [end()] * 16)), [])
        self.assertEqual(all_changes(program_of(1, [read(X, 0)])), [])

    def test_as_plain_ones(self):
        source = random.Random(21)
        for turn in range(300):
            variables = source.randrange(1, 4)
            rows = random_program(source, variables, source.randrange(1, 17))
            program = program_of(variables, rows)
            found = [changed_nodes(program, change) for change in all_changes(program)]
            self.assertEqual(found, plain_changes(variables, rows))
            self.assertEqual(program.nodes, rows)


class ToldApart(unittest.TestCase):
    def test_as_plain_runs(self):
        source = random.Random(22)
        for turn in range(150):
            variables = source.randrange(1, 4)
            rows = random_program(source, variables, source.randrange(1, 17))
            tests = [[source.choice((source.randrange(6), source.randrange(4294967296)))
                      for k in range(source.randrange(15))] for j in range(4)]
            for test, found in zip(tests, told_by(variables, rows, *tests)):
                self.assertEqual(set(found), plain_told(variables, rows, test), (variables, rows, test))

    def test_by_how_alone(self):
        # The one change waits where the program ends.
        self.assertEqual(told_by(1, [read(X, 1), end()], [], [4], [4, 4]), [[], [0], [0]])

    def test_what_is_told_round_and_round_tells_nothing(self):
        # To go round at node 1 or through node 0, telling X or Y: all go round, and nothing was read.
        self.assertEqual(told_by(2, [tell(X, 1), tell(Y, 0)], [], [3]), [[], []])

    def test_told_at_another_time_but_the_same(self):
        # Only the order of what is told counts, not between which reads.
        rows = [tell(Y, 1), read(X, 2), put(X, 0, 3), end()]
        for test in ([], [1], [1, 2]):
            self.assertEqual(set(told_by(2, rows, test)[0]), plain_told(2, rows, test), test)
        rows = [read(X, 1), tell(Y, 2), read(X, 3), tell(Y, 0)]
        for test in ([], [1], [1, 2], [1, 2, 3], [0, 0, 0, 0]):
            self.assertEqual(set(told_by(2, rows, test)[0]), plain_told(2, rows, test), test)

    def test_more_told_and_less_told(self):
        # To go round, to tell once where it is told twice, and to go round again.
        rows = [tell(X, 1), end()]
        self.assertEqual(all_changes(program_of(1, rows)), [(0, 4, 0)])
        self.assertEqual(told_by(1, rows, []), [[0]])
        rows = [tell(X, 1), tell(X, 2), end()]
        self.assertEqual(all_changes(program_of(1, rows)), [(0, 4, 0), (0, 4, 2), (1, 4, 0), (1, 4, 1)])
        self.assertEqual(told_by(1, rows, []), [[0, 1, 2, 3]])


if __name__ == "__main__":
    unittest.main()
