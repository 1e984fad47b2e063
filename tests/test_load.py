"""Point 1: load."""

import unittest

from helper import FILL, GONE, LARGEST, WAYS, ask, below, copy, drop, end, keep, last, less, load, put, read, run, tell

REFUSED = [-22]

# Of each kind: a good node for a program of 2 variables and 2 nodes, and for each of
# v, w, c, a, b the least and the largest it may be, or None if the kind doesn't look at it.
KINDS = {
    0: ((0, 0, 0, 0, 0, 0), (None, None, None, None, None)),
    1: ((1, 0, 0, 0, 1, 0), ((0, 1), None, None, (0, 1), None)),
    2: ((2, 0, 0, 0, 1, 0), ((0, 1), None, (0, 3), (0, 1), None)),
    3: ((3, 0, 0, 0, 1, 0), ((0, 1), (0, 1), None, (0, 1), None)),
    4: ((4, 0, 0, 0, 1, 0), ((0, 1), (0, 1), None, (0, 1), (0, 1))),
    5: ((5, 0, 0, 1, 1, 0), ((0, 1), None, (1, 4), (0, 1), (0, 1))),
    6: ((6, 0, 0, 0, 1, 0), ((0, 1), None, None, (0, 1), None)),
}


def with_number(row, place, number):
    return row[:place] + (number,) + row[place + 1:]


def ways_of_kind(kind):
    return [2] if kind in (4, 5) else [0]


class LoadEdges(unittest.TestCase):
    def test_variables(self):
        for variables in (0, 4, 5, LARGEST):
            self.assertEqual(last(load(variables, [end()])), REFUSED, variables)
        for variables in (1, 2, 3):
            self.assertEqual(last(load(variables, [end()])), [0], variables)

    def test_how_many_nodes(self):
        for size in (0, 17, 18, 20):
            self.assertEqual(last(load(1, [end()] * size)), REFUSED, size)
        for size in (1, 2, 15, 16):
            self.assertEqual(last(load(1, [end()] * size)), [0], size)

    def test_kind(self):
        self.assertEqual(last(load(1, [(6, 0, 0, 0, 0, 0)])), [0])
        for kind in (7, 8, 255, LARGEST):
            self.assertEqual(last(load(1, [(kind, 0, 0, 1, 0, 0)])), REFUSED, kind)

    def test_each_number_of_each_kind(self):
        for kind, (row, looks) in KINDS.items():
            for place, span in enumerate(looks, start=1):
                good = (0, 1, 2, 5, 4294967294, LARGEST) if span is None else (span[0], span[1])
                bad = () if span is None else (span[1] + 1, span[1] + 2, LARGEST)
                if span is not None and span[0] > 0:
                    bad += (span[0] - 1,)
                for number in good:
                    with self.subTest(kind=kind, place=place, good=number):
                        rows = [with_number(row, place, number), end()]
                        self.assertEqual(last(load(2, rows)), ways_of_kind(kind))
                for number in bad:
                    with self.subTest(kind=kind, place=place, bad=number):
                        rows = [with_number(row, place, number), end()]
                        self.assertEqual(last(load(2, rows)), REFUSED)

    def test_variables_that_there_are_hang_on_how_many(self):
        for variables in (1, 2, 3):
            for kind, (row, looks) in KINDS.items():
                for place in (1, 2):
                    if looks[place - 1] is not None:
                        for number in range(5):
                            rows = [with_number(row, place, number), end()]
                            wanted = ways_of_kind(kind) if number < variables else REFUSED
                            self.assertEqual(last(load(variables, rows)), wanted, (variables, kind, place, number))

    def test_nodes_that_there_are_hang_on_how_many(self):
        for size in (1, 3, 16):
            for number in (0, size - 1, size, size + 1, LARGEST):
                for place in (4, 5):
                    rows = [end()] * (size - 1) + [with_number((4, 0, 0, 0, 0, 0), place, number)]
                    self.assertEqual(last(load(1, rows)), [2] if number < size else REFUSED, (size, number, place))

    def test_a_bad_node_anywhere(self):
        for i in range(16):
            rows = [below(0, 1, 0, 0)] * 16
            self.assertEqual(last(load(1, rows)), [32])
            rows[i] = below(0, 5, 0, 0)
            self.assertEqual(last(load(1, rows)), REFUSED, i)

    def test_a_bad_node_that_no_run_comes_to(self):
        self.assertEqual(last(load(1, [end(), read(1, 0)])), REFUSED)

    def test_how_many_ways(self):
        rows = [read(0, 1), less(0, 1, 2, 3), below(0, 4, 3, 3), tell(0, 4), put(1, 3, 5), copy(0, 1, 6), end()]
        self.assertEqual(last(load(2, rows)), [4])
        self.assertEqual(last(load(3, [less(0, 1, 0, 0)] * 16)), [32])


class LoadEffects(unittest.TestCase):
    program = load(1, [read(0, 1), below(0, 2, 2, 2), end()])
    other = load(1, [below(0, 1, 1, 1), end()])
    bad = load(4, [end()])

    def test_refused_load_changes_nothing(self):
        for bad in (self.bad, load(1, []), load(1, [end()] * 17), load(1, [(7, 0, 0, 0, 0, 0)]), load(1, [read(1, 0)])):
            found = ask(self.program, keep([1]), bad, GONE, WAYS, run([5]), keep([9]), GONE)
            self.assertEqual(found, [[2], [0], REFUSED, [1, 2], [2, 2, 3], [0, 1, 0, 1, 3], [1], [2, 2, 3]])

    def test_refused_load_ahead_of_all(self):
        self.assertEqual(ask(self.bad, WAYS, self.program, WAYS), [REFUSED, [-11], [2], [2, 2, 3]])

    def test_good_load_makes_all_new(self):
        found = ask(self.program, keep([1]), keep([5]), self.other, GONE, WAYS, drop(0), keep([]), GONE)
        self.assertEqual(found, [[2], [0], [1], [2], [0], [1, 0], [-2], [0], [1, 0]])

    def test_the_same_load_again_drops_the_tests(self):
        found = ask(self.program, FILL, GONE, self.program, GONE, keep([0]))
        self.assertEqual(found, [[2], [2], [2, 2, 3], [2], [0], [0]])


if __name__ == "__main__":
    unittest.main()
