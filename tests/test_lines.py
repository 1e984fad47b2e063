"""Lines of calls in any order, held against plain answers, and what the document says holds over all calls."""

import random
import unittest

from helper import (
    CHANGES, FEWER, FILL, GONE, LARGEST, LIVES, MISSED, NEEDLESS, NEVER, STATE, WAYS, ask, change, counted, drop, flat,
    keep, kept, last, load, node, plain_changes, plain_run, plain_told, plainly, random_program, run, take, tells, told,
    way, who, worth)
from leasttests.bench import answers

PLAIN = [FILL, FEWER, WAYS, NEVER, GONE, MISSED, CHANGES, LIVES, NEEDLESS, STATE]


def some_number(source, count):
    """Mostly one of so many, at times one behind them."""
    return source.choice((source.randrange(count + 1), source.randrange(count + 1), count, count + 1, LARGEST)
                         if source.random() < 0.2 else (source.randrange(count + 1),))


def some_test(source):
    size = source.choice((0, 1, 2, 3, 5, 8, 12))
    if source.random() < 0.02:
        size = source.choice((255, 256, 257, 260))
    return [source.choice((source.randrange(5), source.randrange(9), source.randrange(LARGEST))) for k in range(size)]


def some_load(source):
    variables = source.randrange(1, 4)
    rows = random_program(source, variables, source.choice((1, 2, 3, 4, 5, 6, 7, 9)))
    if source.random() < 0.5:
        rows = [row[:4] + ((i + 1) % len(rows),) + row[5:] for i, row in enumerate(rows)]
    if source.random() < 0.15:
        # Some of these are no programs.
        variables = source.choice((0, 1, 2, 4))
    return load(variables, rows)


def some_call(source):
    choices = [
        lambda: run(some_test(source)), lambda: keep(some_test(source)), lambda: keep(some_test(source)),
        lambda: drop(some_number(source, 3)), lambda: way(some_number(source, 6), some_number(source, 1)),
        lambda: who(some_number(source, 6), some_number(source, 1)), lambda: change(some_number(source, 60)),
        lambda: take(some_number(source, 40)), lambda: told(some_number(source, 50)),
        lambda: tells(some_number(source, 50), some_test(source)), lambda: worth(some_number(source, 3)),
        lambda: kept(some_number(source, 3)), lambda: node(some_number(source, 6)), lambda: source.choice(PLAIN),
        lambda: source.choice(PLAIN), lambda: source.choice(PLAIN), lambda: source.choice(PLAIN)]
    return source.choice(choices)()


def some_line(source):
    size = source.choice((1, 2, 5, 20, 40, 60))
    calls = [some_load(source) if source.random() < 0.03 else some_call(source) for k in range(size)]
    if source.random() < 0.9:
        calls[0] = some_load(source)
    return calls


def some_programs(seed, count, sizes):
    source = random.Random(seed)
    for turn in range(count):
        variables = source.randrange(1, 4)
        rows = random_program(source, variables, source.choice(sizes))
        tests = [tuple(some_test(source)[:12]) for k in range(source.randrange(6))]
        yield source, variables, rows, tests


class Lines(unittest.TestCase):
    def test_in_any_order(self):
        source = random.Random(41)
        called = {}
        for turn in range(400):
            calls = some_line(source)
            found = ask(*calls)
            wanted = plainly(*calls)
            for k, call in enumerate(calls):
                self.assertEqual(found[k], wanted[k], (k, calls))
                key = (call[0], found[k][0] if found[k][0] < 0 else 0)
                called[key] = called.get(key, 0) + 1
        # Each call came, and was answered and refused each way that the document names.
        refused = {0: [-22], 1: [-22], 2: [-22], 3: [-2], 6: [-22, -1], 11: [-22], 13: [-2], 14: [-2],
                   15: [-2, -33], 16: [-2, -22], 18: [-2], 20: [-2], 21: [-2]}
        for number in range(23):
            for answer in [0] + refused.get(number, []) + ([-11] if number else []):
                self.assertGreater(called.get((number, answer), 0), 0, (number, answer))

    def test_full_of_tests(self):
        source = random.Random(42)
        full = 0
        for turn in range(60):
            calls = [some_load(source)] + [keep(some_test(source)[:5]) for k in range(28 + turn % 5)]
            for k in range(12):
                calls.append(source.choice((FILL, keep([k]), LIVES, NEEDLESS, MISSED, STATE, take(some_number(source, 30)))))
            calls += [FEWER, LIVES, FILL, STATE]
            found = ask(*calls)
            self.assertEqual(found, plainly(*calls), calls)
            full += [-28] in found
        self.assertGreater(full, 10)

    def test_the_same_list_twice(self):
        source = random.Random(43)
        for turn in range(60):
            calls = flat(some_line(source))
            before = list(calls)
            first = answers(calls)
            self.assertEqual(answers(calls), first)
            self.assertEqual(calls, before)

    def test_asking_changes_nothing(self):
        """Answers are the same whether or not something else was asked ahead of them."""
        source = random.Random(44)
        asks = [run([1, 2]), way(1, 0), who(1, 1), WAYS, NEVER, GONE, MISSED, CHANGES, change(2), told(3), tells(4, [1]),
                LIVES, worth(0), NEEDLESS, kept(0), node(1), STATE]
        for turn in range(60):
            calls = [some_load(source)] + [some_call(source) for k in range(20)]
            more = []
            for call in calls:
                more += [call, source.choice(asks)]
            self.assertEqual(ask(*more)[::2], ask(*calls), more)


class WhatHolds(unittest.TestCase):
    def test_a_change_that_lives_is_answered_by_every_kept_test_as_the_program_is(self):
        for source, variables, rows, tests in some_programs(45, 200, range(1, 13)):
            changed = plain_changes(variables, rows)
            lives = last(load(variables, rows), *[keep(test) for test in tests], LIVES)[1:]
            for k, other in enumerate(changed):
                same = all(plain_run(other, test)[0:3:2] == plain_run(rows, test)[0:3:2] for test in tests)
                self.assertEqual(same, k in lives, (rows, tests, k))
            # So it is when the change is taken: what is told and how it comes out stay.
            for k in lives[:3]:
                found = ask(load(variables, rows), *[run(test) for test in tests], take(k), *[run(test) for test in tests])
                for before, after in zip(found[1:], found[2 + len(tests):]):
                    self.assertEqual([before[0], before[2:3 + before[2]]], [after[0], after[2:3 + after[2]]])

    def test_behind_fewer_the_same_ways_are_gone_and_the_same_changes_told(self):
        dropped = 0
        for source, variables, rows, tests in some_programs(46, 200, range(1, 13)):
            calls = [keep(test) for test in tests] + [FILL] * source.randrange(2)
            calls += [GONE, LIVES, FEWER, GONE, LIVES, NEEDLESS, FEWER]
            found = ask(load(variables, rows), *calls)[-7:]
            self.assertEqual(found[:2], found[3:5])
            self.assertEqual(found[5:], [[0], [0]])
            dropped += found[2][0]
        self.assertGreater(dropped, 100)

    def test_fewer_drops_needless_ones_alone(self):
        for source, variables, rows, tests in some_programs(47, 150, range(1, 13)):
            begin = [load(variables, rows)] + [keep(test) for test in tests]
            needless, dropped, state, *left = ask(*begin, NEEDLESS, FEWER, STATE, *[kept(k) for k in range(6)])[-9:]
            self.assertLessEqual(dropped[0], needless[0])
            self.assertEqual(dropped[0] > 0, needless[0] > 0)
            needed = [counted(test) for k, test in enumerate(tests) if k not in needless[1:]]
            rest = [answer for answer in left if answer != [-2]]
            self.assertEqual(state[4], len(rest))
            for answer in needed:
                self.assertIn(answer, rest)

    def test_a_change_taken_and_changed_back(self):
        looks = [LIVES, NEEDLESS, GONE, MISSED, WAYS, NEVER, CHANGES, STATE, worth(0), told(0), node(0), change(0)]
        for source, variables, rows, tests in some_programs(48, 150, range(2, 13)):
            changed = plain_changes(variables, rows)
            if changed:
                k = source.randrange(len(changed))
                back = plain_changes(variables, changed[k]).index(rows)
                begin = [load(variables, rows)] + [keep(test) for test in tests]
                found = ask(*begin, *looks, take(k), *looks, take(back), *looks)[len(begin):]
                self.assertEqual(found[:12], found[26:])
                self.assertEqual(found[13:25], ask(load(variables, changed[k]), *begin[1:], *looks)[len(begin):])

    def test_fill_behind_a_take(self):
        for source, variables, rows, tests in some_programs(49, 150, range(2, 13)):
            changed = plain_changes(variables, rows)
            if changed:
                k = source.randrange(len(changed))
                begin = [load(variables, rows)] + [keep(test) for test in tests]
                calls = begin + [FILL, MISSED, take(k), FILL, MISSED, GONE, WAYS]
                found = ask(*calls)
                self.assertEqual(found, plainly(*calls))
                self.assertEqual([found[-6], found[-3], found[-2]], [[0], [0], found[-1]])

    def test_told_tells_lives_and_worth_say_the_same(self):
        for source, variables, rows, tests in some_programs(50, 60, range(2, 8)):
            count = len(plain_changes(variables, rows))
            begin = [load(variables, rows)] + [keep(test) for test in tests]
            lives, *worths = ask(*begin, LIVES, *[worth(k) for k in range(len(tests))])[len(begin):]
            rowed = [[ask(*begin, tells(k, test))[-1][0] for k in range(count)] for test in tests]
            self.assertEqual(worths, [[sum(row)] for row in rowed])
            for k in range(count):
                first = [j for j, row in enumerate(rowed) if row[k]]
                self.assertEqual(ask(*begin, told(k))[-1], first[:1] or [-33])
                self.assertEqual(k in lives[1:], not first)
            for test, row in zip(tests, rowed):
                self.assertEqual({k for k in range(count) if row[k]}, plain_told(variables, rows, test))


if __name__ == "__main__":
    unittest.main()
