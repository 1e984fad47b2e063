"""The interface: leasttests.bench.answers, and what it says of a list of calls."""

import unittest

from helper import (
    FEWER, FILL, GONE, MISSED, NEVER, WAYS, X, ask, below, drop, end, keep, load, read, run, split, tell, way, who)
from leasttests.bench import answers

PROGRAM = load(1, [read(X, 1), below(X, 2, 2, 3), tell(X, 0), end()])
REFUSED = load(0, [end()])

# Each call but load, as it's handed in.
AHEAD_OF_A_LOAD = [
    [1, 0], [1, 2, 5, 5], [1, 257] + [0] * 257, [2, 0], [2, 1, 9], [2, 260] + [9] * 260, [3, 0], [3, 4294967295],
    [4], [5], [6, 0, 0], [6, 99, 99], [7], [8], [9], [10], [11, 0, 0], [11, 99, 99], [12], [13, 99], [14, 99],
    [15, 99], [16, 99, 0], [16, 99, 2, 99, 99], [17], [18, 99], [19], [20, 99], [21, 99], [22],
]

MANY = [
    PROGRAM, run([1, 1, 9]), keep([1]), keep([0, 5]), GONE, MISSED, who(1, 0), WAYS, NEVER, way(1, 1), way(0, 0),
    FEWER, FILL, drop(0), drop(7), GONE, REFUSED, run([0] * 257),
]


class Interface(unittest.TestCase):
    def test_no_program_ahead_of_a_load(self):
        for call in AHEAD_OF_A_LOAD:
            self.assertEqual(answers(call), [1, -11], call[:3])
            self.assertEqual(answers(REFUSED + call), [1, -22, 1, -11], call[:3])

    def test_no_program_many_times_and_then_one(self):
        calls = sum(AHEAD_OF_A_LOAD, []) + PROGRAM + GONE
        self.assertEqual(answers(calls), [1, -11] * len(AHEAD_OF_A_LOAD) + [1, 2, 1, 0])

    def test_the_count_stands_before_each_answer(self):
        calls = PROGRAM + run([1, 9]) + keep([0]) + WAYS + way(1, 0) + way(0, 0) + GONE
        self.assertEqual(answers(calls), [
            1, 2,
            7, 0, 2, 1, 1, 2, 2, 3,
            1, 0,
            3, 2, 2, 3,
            2, 1, 0,
            1, -22,
            2, 1, 2])

    def test_one_call(self):
        self.assertEqual(answers([0, 1, 6, 0, 0, 0, 0, 0, 0]), [1, 0])
        self.assertEqual(answers([0, 1, 0]), [1, -22])
        self.assertEqual(answers([9]), [1, -11])

    def test_sixty_calls(self):
        calls = [PROGRAM] + [keep([k]) for k in range(29)] + [run([k]) for k in range(29)] + [GONE]
        found = ask(*calls)
        self.assertEqual(len(found), 60)
        self.assertEqual(found[1:30], [[k] for k in range(29)])
        self.assertEqual(found[-1], [2, 2, 3])

    def test_loads_among_the_calls(self):
        other = load(2, [below(1, 1, 1, 1), end()])
        self.assertEqual(ask(PROGRAM, WAYS, other, WAYS, PROGRAM, WAYS), [[2], [2, 2, 3], [2], [1, 0], [2], [2, 2, 3]])

    def test_what_is_handed_in_stays(self):
        calls = sum(MANY, [])
        before = list(calls)
        answers(calls)
        self.assertEqual(calls, before)

    def test_the_same_again(self):
        calls = sum(MANY, [])
        first = answers(calls)
        kept = list(first)
        self.assertEqual(answers(calls), kept)
        # What was given back is the caller's own.
        first.append(1)
        self.assertEqual(answers(calls), kept)
        self.assertEqual(answers(GONE), [1, -11])
        self.assertEqual(answers(calls), kept)

    def test_whole_numbers_alone(self):
        found = answers(sum(MANY, []))
        self.assertIs(type(found), list)
        self.assertEqual({type(n) for n in found}, {int})
        self.assertEqual(len(split(found)), len(MANY))

    def test_a_refusal_is_its_number_alone_and_changes_nothing(self):
        calls = [PROGRAM, keep([1]), keep([5])]
        refused = [REFUSED, run([0] * 257), keep([0] * 258), drop(2), way(0, 0), way(1, 2), who(3, 0)]
        for call in refused:
            found = ask(*calls, call, GONE, who(1, 0), who(1, 1), keep([]))
            self.assertEqual(found[3], [-2] if call == drop(2) else [-22])
            self.assertEqual(found[4:], [[2, 2, 3], [1, 0], [1, 1], [2]])


if __name__ == "__main__":
    unittest.main()
