"""What the document says that holds, over many programs, held against plain runs and plain searches."""

import random
import unittest

from helper import (
    FEWER, FILL, GONE, MISSED, NEEDLESS, NEVER, STATE, WAYS, X, Y, Z, all_least, ask, gone_by, keep, load, pick_least,
    plain_bench, plain_run, plain_run_answer, plain_told, plain_ways, product, random_program, read, run, search_least,
    search_ways, way, who)

# Programs of these kinds read and compare much, so that many of their least tests are long.
READING = (1, 1, 1, 2, 3, 4, 4, 4, 5)


def some_programs(seed, count, sizes, kinds=None):
    source = random.Random(seed)
    for turn in range(count):
        variables = source.randrange(1, 4)
        size = source.choice(sizes)
        rows = random_program(source, variables, size, kinds) if kinds else random_program(source, variables, size)
        if turn % 2:
            # Mostly straight on: such programs come further than wholly random ones.
            rows = [row[:4] + ((i + 1) % size if source.random() < 0.6 else row[4],) + row[5:]
                    for i, row in enumerate(rows)]
        yield source, variables, rows


def apart_programs(seed, count):
    """Programs that read three numbers first, mostly large ones, and go on reading and comparing."""
    source = random.Random(seed)
    for turn in range(count):
        size = source.randrange(8, 17)
        rows = random_program(source, 3, size, (1, 1, 4, 4, 4, 4, 5, 3))
        rows = [row[:3] + (source.choice((4, 4, 4, 1, 2, 3)), (i + 1) % size) + row[5:] for i, row in enumerate(rows)]
        yield [read(X, 1), read(Y, 2), read(Z, 3)] + rows[3:]


def some_test(source, longest):
    return tuple(source.choice((source.randrange(7), source.randrange(4294967296)))
                 for k in range(source.randrange(longest + 1)))


def as_kept(variables, rows, tests, *calls):
    """The answers to the calls behind keeping the tests."""
    return ask(load(variables, rows), *[keep(test) for test in tests], *calls)[1 + len(tests):]


class Runs(unittest.TestCase):
    def test_runs_are_as_plain_ones(self):
        for source, variables, rows in some_programs(1, 1200, range(1, 17)):
            tests = [some_test(source, 12) for k in range(6)]
            found = ask(load(variables, rows), *[run(test) for test in tests])
            for test, answer in zip(tests, found[1:]):
                self.assertEqual(answer, plain_run_answer(rows, test), (variables, rows, test))

    def test_only_the_order_of_the_numbers_counts_and_those_below_4(self):
        for source, variables, rows in some_programs(2, 300, range(4, 17)):
            test = some_test(source, 12)
            large = sorted({n for n in test if n > 3})
            ranked = [n if n < 4 else 4 + large.index(n) for n in test]
            how, reads, told, path = plain_run(rows, ranked)
            answer = ask(load(variables, rows), run(test))[1]
            self.assertEqual(answer[:3], [how, reads, len(told)])
            self.assertEqual([n if n < 4 else 4 + large.index(n) for n in answer[3:3 + len(told)]], told)
            self.assertEqual(answer[4 + len(told):], sorted(set(path)))


class LeastTests(unittest.TestCase):
    def test_against_all_rows_of_up_to_three_small_numbers(self):
        sizes = {}
        for kinds in (None, READING):
            for source, variables, rows in some_programs(3, 700, range(1, 15), kinds):
                searched = search_least(rows, 3)
                for number, test in all_least(variables, rows).items():
                    if test is None or len(test) > 3:
                        self.assertNotIn(number, searched, (variables, rows))
                    else:
                        self.assertEqual(test, searched.get(number), (variables, rows, number))
                    size = None if test is None else len(test)
                    sizes[size] = sizes.get(size, 0) + 1
        # Such a search says little unless least tests of each size were among them.
        for size in (None, 0, 1, 2, 3, 4):
            self.assertGreater(sizes.get(size, 0), 20, size)

    def test_against_all_rows_of_four_small_numbers(self):
        held = 0
        for source, variables, rows in some_programs(4, 1000, range(6, 17), READING):
            for number, test in all_least(variables, rows).items():
                if test is not None and len(test) == 4:
                    found = []
                    for other in product(range(8), repeat=4):
                        path = plain_run(rows, other)[3]
                        if number in path:
                            found.append(([n % 2 for n in path[:path.index(number) + 1]], other))
                    self.assertEqual(test, pick_least(found), (variables, rows, number))
                    held += 1
        self.assertGreater(held, 20)

    def test_each_goes_its_way_and_without_its_last_number_does_not(self):
        longest = 0
        for source, variables, rows in some_programs(5, 1500, range(1, 17), READING):
            for number, test in all_least(variables, rows).items():
                if test is not None:
                    self.assertIn(number, plain_run(rows, test)[3], (variables, rows, number))
                    self.assertLessEqual(max(test, default=0), 3 + len(test))
                    longest = max(longest, len(test))
                    if test:
                        self.assertNotIn(number, plain_run(rows, test[:-1])[3], (variables, rows, number))
        self.assertGreater(longest, 5)

    def test_ways_and_never_and_way_say_the_same(self):
        for source, variables, rows in some_programs(6, 300, range(1, 17)):
            least = all_least(variables, rows)
            ways, never = ask(load(variables, rows), WAYS, NEVER)[1:]
            self.assertEqual(ways[1:], [n for n in least if least[n] is not None])
            self.assertEqual(never[1:], [n for n in least if least[n] is None])
            self.assertEqual([ways[0], never[0]], [len(ways) - 1, len(never) - 1])

    def test_against_all_rows_however_long_of_small_numbers(self):
        programs = [rows for source, variables, rows in some_programs(12, 300, range(4, 17), READING)]
        for rows in programs + list(apart_programs(13, 300)):
            searched = search_ways(rows, 9)
            for number, test in all_least(3, rows).items():
                if test is None:
                    self.assertNotIn(number, searched, (rows, number))
                elif max(test, default=0) < 9:
                    self.assertIn(number, searched, (rows, number))

    def test_no_long_row_goes_where_none_is_told_to_go(self):
        for source, variables, rows in some_programs(7, 300, range(4, 17), READING):
            never = set(ask(load(variables, rows), NEVER)[1][1:])
            for k in range(20):
                test = [source.randrange(9) for k in range(40)]
                self.assertFalse(never & set(plain_run(rows, test)[3]), (variables, rows, test))


class KeptTests(unittest.TestCase):
    def test_gone_missed_and_who(self):
        for source, variables, rows in some_programs(8, 300, range(1, 17)):
            tests = [some_test(source, 8) for k in range(source.randrange(6))]
            numbers = plain_ways(rows)
            asked = [who(n // 2, n % 2) for n in numbers]
            ways, gone, missed, *by = as_kept(variables, rows, tests, WAYS, GONE, MISSED, *asked)
            went = gone_by(rows, tests)
            self.assertEqual(gone, [len(went)] + sorted(went))
            left = [n for n in ways[1:] if n not in went]
            self.assertEqual(missed, [len(left)] + left)
            for n, answer in zip(numbers, by):
                wanted = [k for k, test in enumerate(tests) if n in plain_run(rows, test)[3]]
                self.assertEqual(answer, [len(wanted)] + wanted)

    def test_behind_fill_each_way_that_any_test_goes_is_gone(self):
        for source, variables, rows in some_programs(9, 400, range(1, 17)):
            tests = [some_test(source, 8) for k in range(source.randrange(4))]
            numbers = plain_ways(rows)
            least = all_least(variables, rows)
            wanted = list(tests)
            for n in numbers:
                if least[n] is not None and n not in gone_by(rows, wanted):
                    wanted.append(least[n])
            asked = [who(n // 2, n % 2) for n in numbers]
            more, gone, missed, *by = as_kept(variables, rows, tests, FILL, GONE, MISSED, *asked)
            self.assertEqual(more, [len(wanted) - len(tests)])
            self.assertEqual(missed, [0])
            self.assertEqual(gone[1:], [n for n in numbers if least[n] is not None])
            for n, answer in zip(numbers, by):
                self.assertEqual(answer[1:], [k for k, test in enumerate(wanted) if n in plain_run(rows, test)[3]])

    def test_behind_fewer_none_is_needless_and_nothing_is_lost(self):
        turned = 0
        for source, variables, rows in some_programs(10, 250, range(1, 11)):
            tests = [some_test(source, 6) for k in range(source.randrange(1, 7))]
            bench = plain_bench(variables, rows, tests)
            bench.fewer()
            left = bench.tests
            self.assertEqual(bench.needless(), [0])
            self.assertEqual(gone_by(rows, left), gone_by(rows, tests))
            told = set().union(*[plain_told(variables, rows, test) for test in tests])
            self.assertEqual(told, set().union(*[plain_told(variables, rows, test) for test in left]))
            numbers = plain_ways(rows)
            asked = [who(n // 2, n % 2) for n in numbers]
            dropped, again, gone, *by = as_kept(variables, rows, tests, FEWER, FEWER, GONE, *asked)
            self.assertEqual([dropped, again], [[len(tests) - len(left)], [0]], (variables, rows, tests))
            self.assertEqual(gone[1:], sorted(gone_by(rows, tests)))
            for n, answer in zip(numbers, by):
                wanted = [k for k, test in enumerate(left) if n in plain_run(rows, test)[3]]
                self.assertEqual(answer[1:], wanted, (variables, rows, tests))
            bench = plain_bench(variables, rows, tests[::-1])
            bench.fewer()
            turned += left != bench.tests[::-1]
        # Often enough it matters that the last goes first.
        self.assertGreater(turned, 20)

    def test_fewer_one_by_one(self):
        """With two tests kept, it's seen of each by itself whether it's needless."""
        for source, variables, rows in some_programs(11, 60, range(10, 17), (0, 1, 1, 2, 3, 4, 5, 6, 6)):
            tests = [some_test(source, 10) for k in range(2)]
            found = as_kept(variables, rows, tests, NEEDLESS, FEWER, NEEDLESS, STATE)
            bench = plain_bench(variables, rows, tests)
            wanted = [bench.needless(), bench.fewer(), [0], bench.state()]
            self.assertEqual(found, wanted, (variables, rows, tests))


if __name__ == "__main__":
    unittest.main()
