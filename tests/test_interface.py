"""The interface: leasttests.bench.answers, and what it says of a list of calls."""

import itertools
import unittest

from helper import (
    CHANGES, FEWER, FILL, GONE, LARGEST, LIVES, MISSED, NEEDLESS, NEVER, STATE, WAYS, X, ask, below, change, drop, end,
    keep, kept, load, node, plainly, read, run, split, take, tell, tells, told, way, who, worth)
from leasttests.bench import answers

PROGRAM = load(1, [read(X, 1), below(X, 2, 2, 3), tell(X, 0), end()])
REFUSED = load(0, [end()])

# Each call but load, as it's handed in.
AHEAD_OF_A_LOAD = [
    [1, 0], [1, 2, 5, 5], [1, 257] + [0] * 257, [2, 0], [2, 1, 9], [2, 260] + [9] * 260, [3, 0], [3, 4294967295],
    [4], [5], [6, 0, 0], [6, 99, 99], [7], [8], [9], [10], [11, 0, 0], [11, 99, 99], [12], [13, 99], [14, 99],
    [15, 99], [16, 99, 0], [16, 99, 2, 99, 99], [17], [18, 99], [19], [20, 99], [21, 99], [22],
    [13, 0], [14, 0], [15, 0], [16, 0, 0], [16, 0, 257] + [0] * 257, [16, 4294967295, 260] + [9] * 260, [18, 0], [20, 0],
    [21, 0],
]

MANY = [
    PROGRAM, run([1, 1, 9]), keep([1]), keep([0, 5]), GONE, MISSED, who(1, 0), WAYS, NEVER, way(1, 1), way(0, 0),
    FEWER, FILL, drop(0), drop(7), GONE, REFUSED, run([0] * 257), CHANGES, change(3), LIVES, take(3), LIVES, told(0),
    told(99), tells(2, [1, 5]), worth(0), NEEDLESS, kept(0), kept(9), node(1), STATE, keep([2]), take(1), FEWER, LIVES,
]


class Interface(unittest.TestCase):
    def test_no_program_ahead_of_a_load(self):
        for call in AHEAD_OF_A_LOAD:
            self.assertEqual(answers(call), [1, -11], call[:3])
            self.assertEqual(answers(REFUSED + call), [1, -22, 1, -11], call[:3])

    def test_no_program_many_times_and_then_one(self):
        calls = sum(AHEAD_OF_A_LOAD, []) + PROGRAM + GONE
        self.assertEqual(answers(calls), [1, -11] * len(AHEAD_OF_A_LOAD) + [1, 2, 1, 0])

    def test_the_count_stands_before_each_answer(self):
        calls = PROGRAM + run([1, 9]) + keep([0]) + WAYS + way(1, 0) + way(0, 0) + GONE
        self.assertEqual(answers(calls), [
            1, 2,
            7, 0, 2, 1, 1, 2, 2, 3,
            1, 0,
            3, 2, 2, 3,
            2, 1, 0,
            1, -22,
            2, 1, 2])

    def test_one_call(self):
        self.assertEqual(answers([0, 1, 6, 0, 0, 0, 0, 0, 0]), [1, 0])
        self.assertEqual(answers([0, 1, 0]), [1, -22])
        self.assertEqual(answers([9]), [1, -11])

    def test_sixty_calls(self):
        calls = [PROGRAM] + [keep([k]) for k in range(29)] + [run([k]) for k in range(29)] + [GONE]
        found = ask(*calls)
        self.assertEqual(len(found), 60)
        self.assertEqual(found[1:30], [[k] for k in range(29)])
        self.assertEqual(found[-1], [2, 2, 3])

    def test_counts_before_the_answers_of_the_later_calls(self):
        calls = PROGRAM + keep([1]) + CHANGES + change(0) + told(0) + tells(0, []) + worth(0) + kept(0) + node(1) + STATE
        self.assertEqual(answers(calls + NEEDLESS + take(0) + change(99) + LIVES + drop(0) + LIVES), [
            1, 2,
            1, 0,
            1, 15,
            7, 0, 1, 0, LARGEST, LARGEST, 0, LARGEST,
            1, 0,
            1, 0,
            1, 9,
            2, 1, 1,
            7, 0, 5, 0, LARGEST, 2, 2, 3,
            5, 0, 1, 4, 2, 1,
            1, 0,
            1, 0,
            1, -2,
            13, 12, 3, 4, 5, 6, 7, 8, 9, 10, 11, 12, 13, 14,
            1, 0,
            16, 15, 0, 1, 2, 3, 4, 5, 6, 7, 8, 9, 10, 11, 12, 13, 14])

    def test_any_two_calls_behind_one_another(self):
        each = [
            PROGRAM, run([1, 9]), keep([9]), drop(0), FILL, FEWER, way(1, 1), WAYS, NEVER, GONE, MISSED, who(1, 0), CHANGES,
            change(4), take(4), told(4), tells(4, [1]), LIVES, worth(0), NEEDLESS, kept(0), node(1), STATE]
        self.assertEqual([call[0] for call in each], list(range(23)))
        for pair in itertools.product(each, each):
            calls = [PROGRAM, keep([1]), keep([0, 2]), *pair, LIVES, STATE]
            self.assertEqual(ask(*calls), plainly(*calls), pair)

    def test_sixty_of_each_call(self):
        for call in ([FILL], [FEWER], [CHANGES], [change(2)], [take(2)], [told(2)], [tells(2, [1])], [LIVES], [worth(0)],
                     [NEEDLESS], [kept(0)], [node(0)], [STATE]):
            calls = [PROGRAM, keep([1])] + call * 58
            self.assertEqual(len(calls), 60)
            self.assertEqual(ask(*calls), plainly(*calls), call)

    def test_loads_among_the_calls(self):
        other = load(2, [below(1, 1, 1, 1), end()])
        self.assertEqual(ask(PROGRAM, WAYS, other, WAYS, PROGRAM, WAYS), [[2], [2, 2, 3], [2], [1, 0], [2], [2, 2, 3]])

    def test_what_is_handed_in_stays(self):
        calls = sum(MANY, [])
        before = list(calls)
        answers(calls)
        self.assertEqual(calls, before)

    def test_the_same_again(self):
        calls = sum(MANY, [])
        first = answers(calls)
        kept = list(first)
        self.assertEqual(answers(calls), kept)
        # What was given back is the caller's own.
        first.append(1)
        self.assertEqual(answers(calls), kept)
        self.assertEqual(answers(GONE), [1, -11])
        self.assertEqual(answers(calls), kept)

    def test_whole_numbers_alone(self):
        found = answers(sum(MANY, []))
        self.assertIs(type(found), list)
        self.assertEqual({type(n) for n in found}, {int})
        self.assertEqual(len(split(found)), len(MANY))

    def test_a_refusal_is_its_number_alone_and_changes_nothing(self):
        calls = [PROGRAM, keep([1]), keep([5])]
        looks = [GONE, who(1, 0), who(1, 1), LIVES, node(0), node(1), NEEDLESS, STATE, keep([])]
        refused = {-22: [REFUSED, run([0] * 257), keep([0] * 258), way(0, 0), way(1, 2), who(3, 0), tells(0, [0] * 257)],
                   -2: [drop(2), change(15), take(15), take(LARGEST), told(15), tells(15, [0] * 257), worth(2), kept(2),
                        node(4)],
                   -33: [told(4)]}
        wanted = ask(*calls, *looks)[3:]
        self.assertEqual(wanted[:3], [[2, 2, 3], [1, 0], [1, 1]])
        for answer, several in refused.items():
            for call in several:
                found = ask(*calls, call, *looks)
                self.assertEqual(found[3], [answer], call[:3])
                self.assertEqual(found[4:], wanted, call[:3])


if __name__ == "__main__":
    unittest.main()
