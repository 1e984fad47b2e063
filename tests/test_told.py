"""Point 4: told, tells, lives, worth, needless."""

import random
import unittest

from helper import (
    FEWER, FILL, LARGEST, LIVES, NEEDLESS, STATE, X, Y, Z, ask, below, copy, counted, drop, end, keep, last, less, load,
    number_of, plain_bench, plain_changes, plain_run, plainly, put, random_program, read, take, tell, tells, told, worth)

# Reads one number, tells it if it's below 3, and ends. Its changes: node 0 to 0, 2, 3; node 1 below
# 1, 2, 4, by way 0 to 0, 1, 3, by way 1 to 0, 1, 2; node 2 to 0, 1, 2.
ROWS = [read(X, 1), below(X, 3, 2, 3), tell(X, 3), end()]
ONCE = load(1, ROWS)
TOLD = {
    (): [],
    (1,): [0, 2, 3, 6, 7, 8, 12, 13, 14],
    (2,): [0, 2, 3, 4, 6, 7, 8, 12, 13, 14],
    (3,): [0, 1, 5, 9, 10, 11],
    (5,): [0, 1, 9, 10, 11],
}


def apart(rows, changed, test):
    """Whether the test tells the changed program from the other, by plain runs."""
    own, other = plain_run(rows, test), plain_run(changed, test)
    return (own[0], own[2]) != (other[0], other[2])


class Tells(unittest.TestCase):
    def test_each_change_by_hand(self):
        for test, wanted in TOLD.items():
            found = ask(ONCE, *[tells(k, test) for k in range(15)])[1:]
            self.assertEqual(found, [[1 if k in wanted else 0] for k in range(15)], test)

    def test_whatever_is_kept(self):
        self.assertEqual(ask(ONCE, tells(4, [2]), keep([2]), tells(4, [2]), tells(4, [1]), drop(0), tells(4, [2]))[1:],
                         [[1], [0], [1], [0], [0], [1]])

    def test_keeps_nothing(self):
        self.assertEqual(ask(ONCE, tells(4, [2]), told(4), LIVES, STATE)[1:],
                         [[1], [-33], counted(range(15)), [0, 1, 4, 2, 0]])

    def test_how_long_a_test_may_be(self):
        echo = load(2, [read(X, 1), tell(X, 0)])
        # Changes: node 0 reads Y, or goes to 0; node 1 tells Y, or goes to 1.
        test = [0] * 255 + [1]
        self.assertEqual(ask(echo, *[tells(k, test) for k in range(4)])[1:], [[1]] * 4)
        self.assertEqual(ask(echo, tells(0, [0] * 256), tells(2, [0] * 256), tells(1, [0] * 256))[1:], [[0], [0], [1]])
        for size in (257, 258, 260):
            self.assertEqual(ask(echo, tells(3, [1] * size), tells(0, [0] * size))[1:], [[-22], [-22]], size)

    def test_none_such_comes_ahead_of_too_long(self):
        for k in (15, LARGEST):
            for size in (0, 256, 257, 260):
                self.assertEqual(last(ONCE, tells(k, [1] * size)), [-2], (k, size))
        self.assertEqual(last(ONCE, tells(14, [1] * 257)), [-22])

    def test_numbers_that_the_change_alone_reads(self):
        # Change 12 goes on reading behind what is told: it waits, ends as the program does, or tells more.
        self.assertEqual(ask(ONCE, tells(12, [1]), tells(12, [1, 9]), tells(12, [1, 1, 9]), tells(1, [1, 9]))[1:],
                         [[1], [0], [1], [0]])

    def test_numbers_read_do_not_count_but_those_told_and_how(self):
        # Node 0 reads, or is passed by: both end, and nothing is told.
        rows = [below(X, 1, 1, 2), read(X, 2), end()]
        k = number_of(1, rows, 0, "a", 2)
        self.assertEqual(ask(load(1, rows), tells(k, [5]), tells(k, []))[1:], [[0], [1]])

    def test_told_in_order(self):
        rows = [read(X, 1), read(Y, 2), tell(X, 3), tell(Y, 4), end()]
        k = number_of(2, rows, 2, "v", Y)
        self.assertEqual(ask(load(2, rows), tells(k, [1, 2]), tells(k, [2, 2]), tells(k, [1]))[1:], [[1], [0], [0]])


class Told(unittest.TestCase):
    def test_the_first_that_tells(self):
        found = ask(ONCE, keep([]), keep([1]), keep([5]), keep([2]), *[told(k) for k in range(15)])
        self.assertEqual(found[5:], [[n] for n in (1, 2, 1, 1, 3, -33, 1, 1, 1, 2, 2, 2, 1, 1, 1)])

    def test_none_kept(self):
        self.assertEqual(ask(ONCE, *[told(k) for k in range(16)])[1:], [[-33]] * 15 + [[-2]])

    def test_none_such_comes_ahead_of_lives(self):
        self.assertEqual(ask(ONCE, keep([]), told(14), told(15), told(LARGEST))[2:], [[-33], [-2], [-2]])

    def test_before_and_after_keep_drop_and_fewer(self):
        found = ask(ONCE, told(4), keep([1]), told(4), keep([2]), told(4), keep([2]), told(4), drop(0), told(4), drop(0),
                    told(4), drop(0), told(4))
        self.assertEqual(found[1::2], [[-33], [-33], [1], [1], [0], [0], [-33]])
        found = ask(ONCE, keep([1]), keep([2]), told(0), told(4), FEWER, told(0), told(4))
        self.assertEqual(found[3:], [[0], [1], [1], [0], [0]])
        found = ask(ONCE, keep([2]), keep([1]), told(0), FEWER, told(0), told(4))
        self.assertEqual(found[3:], [[0], [1], [0], [0]])

    def test_asked_for_one_after_another(self):
        # Each is found by itself, in whatever order they are asked for.
        order = (14, 3, 5, 4, 0, 4, 9, 1, 5, 14)
        found = ask(ONCE, keep([1]), keep([3]), *[told(k) for k in order], LIVES)
        self.assertEqual(found[3:], [[0], [0], [1], [-33], [0], [-33], [1], [1], [1], [0], [1, 4]])


class Lives(unittest.TestCase):
    def test_none_kept(self):
        self.assertEqual(last(ONCE, LIVES), counted(range(15)))
        self.assertEqual(last(load(1, [end()]), LIVES), [0])

    def test_by_hand(self):
        for test, wanted in TOLD.items():
            self.assertEqual(last(ONCE, keep(test), LIVES), counted(k for k in range(15) if k not in wanted), test)
        self.assertEqual(last(ONCE, keep([1]), keep([5]), LIVES), [2, 4, 5])
        self.assertEqual(last(ONCE, keep([2]), keep([3]), LIVES), [0])

    def test_before_and_after_keep_drop_fill_and_fewer(self):
        calls = [ONCE, LIVES, keep([1]), LIVES, keep([3]), LIVES, drop(0), LIVES, FILL, LIVES, keep([2]), LIVES, FEWER,
                 LIVES, drop(1), LIVES]
        found = ask(*calls)
        self.assertEqual([answer[0] for answer in found[1::2]], [15, 6, 1, 9, 2, 0, 0, 9])
        self.assertEqual(found, plainly(*calls))

    def test_a_test_kept_twice(self):
        self.assertEqual(ask(ONCE, keep([1]), keep([1]), LIVES, drop(0), LIVES, drop(0), LIVES)[3:],
                         [[6, 1, 4, 5, 9, 10, 11], [1], [6, 1, 4, 5, 9, 10, 11], [0], counted(range(15))])


class Worth(unittest.TestCase):
    def test_by_hand(self):
        tests = list(TOLD)
        found = ask(ONCE, *[keep(test) for test in tests], *[worth(k) for k in range(6)])
        self.assertEqual(found[6:], [[len(TOLD[test])] for test in tests] + [[-2]])

    def test_of_each_by_itself(self):
        self.assertEqual(ask(ONCE, keep([1]), keep([1]), keep([2]), worth(0), worth(1), worth(2), LIVES)[4:7],
                         [[9], [9], [10]])

    def test_none_such(self):
        self.assertEqual(ask(ONCE, worth(0), keep([1]), worth(1), worth(LARGEST), worth(0))[1:],
                         [[-2], [0], [-2], [-2], [9]])

    def test_before_and_after_drop_and_fewer(self):
        self.assertEqual(ask(ONCE, keep([]), keep([5]), keep([3]), worth(0), drop(0), worth(0), worth(1), worth(2))[4:],
                         [[0], [2], [5], [6], [-2]])
        self.assertEqual(ask(ONCE, keep([3]), keep([5]), keep([2]), worth(1), FEWER, worth(0), worth(1), worth(2))[4:],
                         [[5], [1], [6], [10], [-2]])


class Needless(unittest.TestCase):
    def test_none_kept(self):
        self.assertEqual(last(ONCE, NEEDLESS), [0])

    def test_by_hand(self):
        # [5] goes and tells what [3] does, [1] what [2] does; [] does nothing.
        found = last(ONCE, keep([5]), keep([3]), keep([]), keep([2]), keep([1]), NEEDLESS)
        self.assertEqual(found, [3, 0, 2, 4])
        self.assertEqual(last(ONCE, keep([2]), keep([3]), NEEDLESS), [0])
        self.assertEqual(last(ONCE, keep([]), NEEDLESS), [1, 0])

    def test_each_by_itself(self):
        self.assertEqual(ask(ONCE, keep([1]), keep([1]), NEEDLESS, drop(0), NEEDLESS)[3:], [[2, 0, 1], [1], [0]])
        self.assertEqual(ask(ONCE, keep([2]), keep([1]), keep([1]), NEEDLESS, FEWER, NEEDLESS)[4:], [[2, 1, 2], [2], [0]])
        # Any two of the three do for all.
        rows = [read(X, 1), below(X, 1, 0, 2), below(X, 2, 0, 3), below(X, 3, 0, 0)]
        found = ask(load(1, rows), keep([0, 1]), keep([1, 2]), keep([2, 0]), NEEDLESS, drop(1), NEEDLESS)
        self.assertEqual(found[4:], [[3, 0, 1, 2], [2], [0]])

    def test_needed_for_a_way_alone(self):
        # All go round in the end: what [0, 5] tells [5] tells, too, but it goes below 2 alone.
        for size in range(3, 17):
            rows = [read(X, size - 1)] + [put(X, 0, i) for i in range(1, size - 1)] + [below(X, 2, 1, 1)]
            program = load(1, rows)
            for tests in ([[0, 5], [5]], [[5], [0, 5]]):
                calls = [program] + [keep(test) for test in tests] + [worth(0), worth(1), LIVES, NEEDLESS, FEWER, NEEDLESS]
                found = ask(*calls)
                self.assertEqual(sorted(found[3:5]), [[2], [3]], size)
                self.assertEqual(found[6:], [[0], [0], [0]], size)
                self.assertEqual(found, plainly(*calls))
            # With another one that goes there, too, it's needless.
            self.assertEqual(last(program, keep([0, 5]), keep([5]), keep([1, 9]), NEEDLESS), [2, 0, 2], size)

    def test_without_a_change_that_is_told_ways_alone_count(self):
        self.assertEqual(ask(load(1, [below(X, 1, 0, 0)]), keep([]), keep([4]), NEEDLESS, FEWER, NEEDLESS)[3:],
                         [[2, 0, 1], [1], [0]])

    def test_needed_for_a_change_alone(self):
        # No comparisons: only what is told counts.
        program = load(1, [read(X, 1), tell(X, 2), end()])
        self.assertEqual(ask(program, keep([5]), NEEDLESS, keep([]), NEEDLESS, keep([6, 6]), NEEDLESS)[2:],
                         [[0], [1], [1, 1], [2], [3, 0, 1, 2]])

    def test_it_drops_nothing(self):
        self.assertEqual(ask(ONCE, keep([]), keep([]), NEEDLESS, STATE, NEEDLESS)[3:],
                         [[2, 0, 1], [0, 1, 4, 2, 2], [2, 0, 1]])

    def test_no_ways_and_no_changes(self):
        self.assertEqual(ask(load(2, [end()]), keep([]), keep([1]), NEEDLESS, FEWER, STATE)[3:],
                         [[2, 0, 1], [2], [0, 2, 1, 0, 0]])

    def test_before_and_after_fill_and_a_take(self):
        calls = [ONCE, keep([1]), FILL, NEEDLESS, keep([5]), NEEDLESS, take(5), NEEDLESS, keep([2]), NEEDLESS, FEWER,
                 NEEDLESS, STATE]
        found = ask(*calls)
        self.assertEqual([found[3], found[5]], [[0], [1, 2]])
        self.assertEqual(found, plainly(*calls))


class AgainstPlainRuns(unittest.TestCase):
    def looks(self, source, count, tests):
        numbers = [source.randrange(count + 1) for k in range(4)]
        return ([LIVES, NEEDLESS] + [worth(k) for k in range(len(tests) + 1)] + [told(k) for k in numbers]
                + [tells(numbers[0], source.choice(tests or [()]))])

    def test_before_and_after_all_that_changes_something(self):
        source = random.Random(31)
        for turn in range(120):
            variables = source.randrange(1, 4)
            rows = random_program(source, variables, source.randrange(1, 13))
            count = len(plain_changes(variables, rows))
            tests = [tuple(source.choice((source.randrange(6), source.randrange(LARGEST)))
                           for k in range(source.randrange(9))) for j in range(source.randrange(4))]
            tests += tests[:source.randrange(2)]
            more = [[keep([source.randrange(6)]), drop(source.randrange(3))], [FILL, FEWER],
                    [take(source.randrange(count + 1)), FEWER], [take(source.randrange(count + 1)), FILL]]
            calls = [load(variables, rows)] + [keep(test) for test in tests] + self.looks(source, count, tests)
            for call in source.choice(more):
                calls += [call] + self.looks(source, count, tests)
            self.assertEqual(ask(*calls), plainly(*calls), calls)

    def test_each_changed_program_run_by_itself(self):
        source = random.Random(32)
        for turn in range(40):
            rows = random_program(source, 3, source.randrange(4, 17), (0, 1, 1, 1, 2, 3, 4, 4, 5, 6))
            tests = [tuple(source.randrange(9) for k in range(20)) for j in range(4)]
            changed = plain_changes(3, rows)
            lives = [k for k, other in enumerate(changed) if not any(apart(rows, other, test) for test in tests)]
            found = ask(load(3, rows), *[keep(test) for test in tests], LIVES, *[worth(k) for k in range(4)])
            self.assertEqual(found[5], counted(lives))
            self.assertEqual(found[6:], [[sum(apart(rows, other, test) for other in changed)] for test in tests])
            for number in range(0, len(changed), 50):
                asked = range(number, min(number + 50, len(changed)))
                answered = ask(load(3, rows), *[keep(test) for test in tests], *[told(k) for k in asked])[5:]
                for k, answer in zip(asked, answered):
                    first = [j for j, test in enumerate(tests) if apart(rows, changed[k], test)][:1] or [-33]
                    self.assertEqual(answer, first, (rows, tests, k))

    def test_needless_ones_of_programs_with_many_ways(self):
        source = random.Random(34)
        needless, needed = 0, 0
        for turn in range(60):
            rows = random_program(source, 3, 16, (0, 1, 1, 4, 4, 4, 5, 5, 6))
            # Straight on by way 0, so that the last nodes are come to as well.
            rows = [row[:4] + ((i + 1) % 16,) + row[5:] for i, row in enumerate(rows)]
            tests = [tuple(source.randrange(6) for k in range(source.randrange(1, 8))) for j in range(5)]
            calls = [load(3, rows)] + [keep(test) for test in tests] + [NEEDLESS, FEWER, NEEDLESS, STATE, LIVES]
            found = ask(*calls)
            self.assertEqual(found, plainly(*calls), calls)
            needless += found[6][0]
            needed += 5 - found[6][0]
        self.assertGreater(min(needless, needed), 50)

    def test_long_tests(self):
        source = random.Random(33)
        for kinds in ((1, 1, 1, 2, 3, 4, 4, 5, 6), (1, 1, 1, 3, 4, 4, 4), (0, 1, 1, 1, 1, 3, 4, 5, 6)):
            for bound in (6, LARGEST):
                rows = random_program(source, 3, 16, kinds)
                tests = [tuple(source.randrange(bound) for k in range(256)) for j in range(2)]
                bench = plain_bench(3, rows, tests)
                found = ask(load(3, rows), *[keep(test) for test in tests], LIVES, worth(0), worth(1), NEEDLESS)[3:]
                self.assertEqual(found, [bench.lives(), bench.worth(0), bench.worth(1), bench.needless()])

    def test_variables_copied_and_set(self):
        rows = [read(X, 1), copy(Z, Y, 2), copy(Y, X, 3), less(Z, Y, 4, 5), put(Z, 3, 6), tell(Z, 0), less(X, Z, 7, 0),
                tell(Y, 8), end()]
        calls = [load(3, rows), keep([1, 2, 1, 4, 4]), keep([5, 5, 5]), keep([3, 2, 1, 0]), LIVES, worth(0), worth(1),
                 worth(2), NEEDLESS, FEWER, LIVES]
        self.assertEqual(ask(*calls), plainly(*calls))


if __name__ == "__main__":
    unittest.main()
