"""The largest that may be handed in comes to an end in good time."""

import random
import time
import unittest

from helper import (
    CHANGES, FEWER, FILL, GONE, LIVES, MISSED, NEEDLESS, NEVER, STATE, WAYS, X, Y, Z, ask, below, copy, end, flat, keep,
    kept, less, load, plain_changes, plain_run, plain_run_answer, plain_told, put, read, run, take, tell, tells, told, way, who,
    worth)
from leasttests.bench import answers

SECONDS = 120

# Sixteen nodes round and round, nothing told: what a change does is seen only at a test's end.
SILENT = (
    [read(X, 1)] + [less(i % 3, (i + 1) % 3, i + 1, i + 2) for i in range(1, 12)]
    + [copy(Y, X, 13), read(Y, 14), copy(Z, Y, 15), read(Z, 0)])

# Many reads, few comparisons: changes that were told apart by nothing go on with all sorts of numbers held.
READS = [
    copy(Z, Y, 1), copy(X, Z, 2), read(Z, 3), read(X, 4), less(Z, Z, 5, 5), read(Y, 6), read(Z, 7), read(Y, 8),
    less(Y, X, 9, 13), read(Z, 10), read(X, 11), read(Z, 12), read(Z, 13), less(Z, Y, 14, 15), read(Y, 15),
    copy(Z, X, 0)]

# X and Y count to sixteen between two reads of Z, which is told.
COUNTER = [
    read(Z, 1), put(X, 0, 2), put(Y, 0, 3), below(Y, 1, 4, 5), put(Y, 1, 3), below(Y, 2, 6, 7), put(Y, 2, 3),
    below(Y, 3, 8, 9), put(Y, 3, 3), below(X, 1, 10, 11), put(X, 1, 2), below(X, 2, 12, 13), put(X, 2, 2),
    below(X, 3, 14, 15), put(X, 3, 2), tell(Z, 0)]

# Its least tests are long: way 0 out of node 5 needs 52 numbers.
FAR = [
    (1, 1, 0, 3, 1, 8), (1, 1, 0, 3, 2, 14), (4, 1, 0, 1, 10, 12), (1, 1, 1, 1, 8, 10), (1, 1, 0, 3, 0, 3),
    (4, 2, 0, 2, 7, 1), (3, 0, 2, 3, 4, 12), (1, 1, 0, 3, 3, 9), (5, 1, 0, 2, 9, 14), (4, 1, 2, 2, 5, 10),
    (1, 1, 0, 2, 6, 7), (1, 1, 1, 1, 13, 12), (1, 1, 1, 2, 11, 3), (1, 1, 2, 3, 15, 5), (1, 2, 1, 1, 4, 4),
    (1, 1, 1, 3, 7, 9)]


# Nearly all changes live here, and many of them hold numbers of their own at every read.
ALIVE = [
    read(Y, 2), less(Z, X, 1, 14), read(X, 3), less(X, Z, 5, 14), read(Z, 5), copy(Z, Y, 6), less(X, X, 7, 2), end(),
    less(Y, Y, 9, 6), read(Y, 8), read(Y, 11), read(X, 12), read(X, 13), read(Y, 15), read(Z, 15), read(Z, 0)]


def many_tests(seed, count, bound, size=256):
    source = random.Random(seed)
    return [[source.randrange(bound) for k in range(size)] for j in range(count)]


class Largest(unittest.TestCase):
    def in_good_time(self, calls):
        before = time.monotonic()
        found = ask(*calls)
        self.assertLess(time.monotonic() - before, SECONDS)
        return found

    def test_fewer_of_32_tests_of_256_numbers(self):
        for name, rows in (("silent", SILENT), ("reads", READS), ("counter", COUNTER)):
            for bound in (8, 4294967296):
                with self.subTest(name=name, bound=bound):
                    tests = many_tests(1, 32, bound)
                    looks = [FEWER, GONE, WAYS, NEVER, MISSED] + [who(i, out) for i in range(10) for out in (0, 1)]
                    calls = [load(3, rows)] + [keep(test) for test in tests] + [FILL] + looks + [FEWER]
                    self.assertEqual(len(calls), 60)
                    found = self.in_good_time(calls)
                    self.assertEqual(found[1:33], [[k] for k in range(32)])
                    self.assertEqual(found[-1], [0])
                    self.assertEqual(found[35][1:], sorted({n for test in tests for n in plain_run(rows, test)[3]}))

    def test_sixty_calls_on_changes(self):
        for name, rows in (("silent", SILENT), ("reads", READS), ("counter", COUNTER), ("alive", ALIVE)):
            for bound in (8, 4294967296):
                with self.subTest(name=name, bound=bound):
                    tests = many_tests(4, 32, bound)
                    count = len(plain_changes(3, rows))
                    own = plain_told(3, rows, tests[0])
                    calls = [load(3, rows)] + [keep(test) for test in tests]
                    looks = [worth(0), told(count // 2), tells(count - 1, tests[0]), tells(count // 3, tests[0]), LIVES,
                             NEEDLESS, told(count - 1), worth(31)]
                    calls += looks + [take(count // 2), LIVES, NEEDLESS, worth(0), FILL, take(7), told(3), LIVES, worth(31)]
                    calls += [take(count - 1), tells(11, tests[5]), worth(16), FEWER, NEEDLESS, LIVES, GONE, STATE, CHANGES,
                              FEWER]
                    self.assertEqual(len(calls), 60)
                    found = self.in_good_time(calls)
                    self.assertEqual(found[33], [len(own)])
                    self.assertEqual(found[35:37], [[int(count - 1 in own)], [int(count // 3 in own)]])
                    self.assertFalse(own & set(found[37][1:]))
                    self.assertEqual(found[-1], [0])

    def test_take_upon_take(self):
        """Each take makes another program, of which nothing is known yet."""
        for name, rows in (("silent", SILENT), ("reads", READS), ("alive", ALIVE)):
            for look in (LIVES, NEEDLESS):
                with self.subTest(name=name, look=look):
                    count = len(plain_changes(3, rows))
                    calls = [load(3, rows)] + [keep(test) for test in many_tests(5, 29, 8)]
                    for k in range(15):
                        calls += [take((37 * k + 11) % count), look]
                    self.assertEqual(len(calls), 60)
                    self.in_good_time(calls)

    def test_fifty_four_tells_of_256_numbers(self):
        tests = many_tests(6, 54, 4294967296)
        changed = plain_changes(3, COUNTER)
        numbers = [7 * k % len(changed) for k in range(54)]
        found = self.in_good_time([load(3, COUNTER)] + [tells(k, test) for k, test in zip(numbers, tests)])
        for k, test, answer in zip(numbers, tests, found[1:]):
            own, other = plain_run(COUNTER, test), plain_run(changed[k], test)
            self.assertEqual(answer, [int((own[0], own[2]) != (other[0], other[2]))])

    def test_long_tests_that_are_shown(self):
        tests = many_tests(7, 29, 4294967296)
        found = self.in_good_time([load(3, READS)] + [keep(test) for test in tests] + [kept(k) for k in range(29)])
        self.assertEqual(found[30:], [[256] + test for test in tests])

    def test_fifty_nine_runs_of_256_numbers(self):
        tests = many_tests(2, 59, 4294967296)
        found = self.in_good_time([load(3, COUNTER)] + [run(test) for test in tests])
        self.assertEqual(found[1], plain_run_answer(COUNTER, tests[0]))
        self.assertEqual(found[59], plain_run_answer(COUNTER, tests[58]))

    def test_the_longest_list(self):
        calls = flat([load(3, SILENT)] + [keep(test) for test in many_tests(3, 59, 4294967296, 260)])
        self.assertLessEqual(len(calls), 15800)
        self.assertEqual(answers(calls), [1, 22] + [1, -22] * 59)

    def test_far_ways(self):
        numbers = [2 * i + k for i, row in enumerate(FAR) if row[0] in (4, 5) for k in (0, 1)]
        found = self.in_good_time([load(3, FAR)] + [way(n // 2, n % 2) for n in numbers] + [FILL, FEWER, MISSED])
        for n, answer in zip(numbers, found[1:]):
            if answer != [-1]:
                test = answer[1:]
                self.assertIn(n, plain_run(FAR, test)[3])
                self.assertTrue(not test or n not in plain_run(FAR, test[:-1])[3])
                self.assertLessEqual(max(test, default=0), 3 + len(test))
        self.assertEqual(max(answer[0] for answer in found[1:-3]), 52)
        self.assertEqual(found[-1], [0])

    def test_thirty_loads(self):
        calls = [load(3, rows) if k == 0 else WAYS for rows in (FAR, READS, SILENT) * 10 for k in (0, 1)]
        self.assertEqual(len(calls), 60)
        found = self.in_good_time(calls)
        self.assertEqual(found[:6], found[6:12])

    def test_thirty_programs(self):
        source = random.Random(8)
        for rows in (FAR, READS, SILENT):
            calls = [load(3, rows), FILL]
            for k in range(29):
                calls += [take(source.randrange(len(plain_changes(3, rows)))), FILL if k % 2 else WAYS]
            self.assertEqual(len(calls), 60)
            self.in_good_time(calls)


if __name__ == "__main__":
    unittest.main()
