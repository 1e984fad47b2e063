"""Only the order of the numbers counts, and those below 4: what is held near 3 and 4, and three that stand anyhow."""

import itertools
import unittest

from helper import (
    LIVES, X, Y, Z, ask, below, end, keep, less, load, plain_bench, plain_run_answer, plainly, read, run, tells, way,
    worth)
from leasttests.stretch import shape

# Every comparison of X, Y, Z with each other and with 4, whichever way the ones before went.
ALL_COMPARED = [
    read(X, 1), read(Y, 2), read(Z, 3), below(X, 4, 4, 4), below(Y, 4, 5, 5), below(Z, 4, 6, 6), less(X, Y, 7, 7),
    less(Y, X, 8, 8), less(Y, Z, 9, 9), less(Z, Y, 10, 10), less(X, Z, 11, 11), less(Z, X, 12, 12), end()]


class Shapes(unittest.TestCase):
    def test_large_numbers_by_their_order(self):
        for held in itertools.product(range(14), repeat=3):
            large = sorted({n for n in held if n > 3})
            self.assertEqual(shape(held), tuple(n if n < 4 else 5 + 2 * large.index(n) for n in held), held)

    def test_runs_near_three_and_four(self):
        tests = list(itertools.product((2, 3, 4, 5, 6), repeat=3))
        for first in range(0, len(tests), 50):
            some = tests[first:first + 50]
            found = ask(load(3, ALL_COMPARED), *[run(test) for test in some])[1:]
            self.assertEqual(found, [plain_run_answer(ALL_COMPARED, test) for test in some])

    def test_changes_near_three_and_four(self):
        rows = [read(X, 1), read(Y, 2), read(Z, 3), less(X, Y, 4, 6), less(Y, Z, 5, 6), below(X, 4, 0, 7), below(Z, 4, 7, 0),
                end()]
        tests = list(itertools.product((3, 4, 5), repeat=3))
        for first in (0, 9, 18):
            calls = [load(3, rows)] + [keep(test) for test in tests[first:first + 9]] + [LIVES]
            calls += [worth(k) for k in range(9)]
            self.assertEqual(ask(*calls), plainly(*calls))


class Between(unittest.TestCase):
    def test_between_two_large_ones(self):
        for u, v, w in itertools.permutations((X, Y, Z)):
            rows = [read(u, 1), below(u, 4, 7, 2), read(v, 3), less(u, v, 4, 7), read(w, 5), less(u, w, 6, 7),
                    less(w, v, 7, 7), end()]
            self.assertEqual(ask(load(3, rows), way(6, 0), way(6, 1))[1:], [[3, 4, 6, 5], [3, 4, 5, 5]])

    def test_below_a_large_one_and_large(self):
        for u, v in itertools.permutations((X, Y, Z), 2):
            rows = [read(u, 1), below(u, 4, 5, 2), read(v, 3), below(v, 4, 5, 4), less(v, u, 5, 5), end()]
            self.assertEqual(ask(load(3, rows), way(4, 0), way(4, 1))[1:], [[2, 5, 4], [2, 4, 4]])

    def test_anew_anywhere_to_two_large_ones(self):
        # X below Y, both large, whichever of the three is read anew: below, between or above.
        for u, v, w in itertools.permutations((X, Y, Z)):
            rows = [read(u, 1), below(u, 4, 9, 2), read(v, 3), less(u, v, 4, 9), read(w, 5), below(w, 4, 9, 6),
                    less(w, u, 9, 7), less(v, w, 9, 8), less(u, w, 9, 9), end()]
            found = ask(load(3, rows), way(6, 0), way(7, 0), way(8, 0), way(8, 1))[1:]
            self.assertEqual(found, [[3, 5, 6, 4], [3, 4, 5, 6], [3, 4, 5, 5], [3, 4, 5, 4]])

    def test_three_large_ones_in_every_order_and_a_fourth(self):
        for u, v, w in itertools.permutations((X, Y, Z)):
            # u below v below w; then u anew, between v and w or above both, or v anew, below u.
            begin = [read(u, 1), below(u, 4, 15, 2), read(v, 3), less(u, v, 4, 15), read(w, 5), less(v, w, 6, 15)]
            for rest, wanted in (
                    ([read(u, 7), less(v, u, 8, 15), less(u, w, 15, 15)], [4, 4, 5, 7, 6]),
                    ([read(u, 7), less(v, u, 8, 15), less(w, u, 15, 15)], [4, 4, 5, 6, 7]),
                    ([read(v, 7), below(v, 4, 15, 8), less(v, u, 15, 15)], [4, 5, 6, 7, 4])):
                rows = begin + rest + [end()] * 7
                self.assertEqual(ask(load(3, rows), way(8, 0))[1], wanted, (u, v, w, wanted))

    def test_a_change_told_by_a_number_between_alone(self):
        rows = [read(X, 1), read(Y, 2), read(Z, 3), less(X, Z, 4, 6), less(Z, Y, 5, 6), read(X, 6), end()]
        tests = [(10, 30, 20), (10, 30, 30), (10, 30, 10), (30, 10, 20), (4, 4, 4), (3, 5, 4)]
        bench = plain_bench(3, rows, tests)
        for k in range(bench.changes()[0]):
            found = ask(load(3, rows), *[tells(k, test) for test in tests])[1:]
            self.assertEqual(found, [bench.tells(k, test) for test in tests])


if __name__ == "__main__":
    unittest.main()
