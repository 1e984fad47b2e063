"""What kept tests do together. A test is a tuple of numbers."""

from leasttests.program import MOST_NODES
from leasttests.study import every_change, known_apart, known_least, known_run, reached_ways


def ways_gone(study, tests):
    bits = 0
    for test in tests:
        bits |= known_run(study, test).way_bits
    return bits


# What one test tells the next needn't be asked for: most changes are told by the first tests.
def living_changes(study, tests):
    left = every_change(study)
    for test in tests:
        left &= ~known_apart(study, test, left)
    return left


# None where the change lives.
def first_teller(study, tests, k):
    for number, test in enumerate(tests):
        if known_apart(study, test, 1 << k):
            return number
    return None


# All that a test is kept for, as bits: the ways that it goes, and behind them the changes that it tells.
def marks_of(study, test):
    return known_run(study, test).way_bits | known_apart(study, test, every_change(study)) << 2 * MOST_NODES


def is_needless(marks, k):
    others = 0
    for bits in without(marks, k):
        others |= bits
    return marks[k] & ~others == 0


def without(row, k):
    return row[:k] + row[k + 1:]


def needless_tests(study, tests):
    marks = [marks_of(study, test) for test in tests]
    return [k for k in range(len(tests)) if is_needless(marks, k)]


def needful_tests(study, tests):
    marks = [marks_of(study, test) for test in tests]
    left = tests
    for k in range(len(tests) - 1, -1, -1):
        if is_needless(marks, k):
            marks = without(marks, k)
            left = without(left, k)
    return left


# The least tests of the ways, by numbers, that neither these tests nor those found before go.
def missing_tests(study, tests):
    found = []
    gone = ways_gone(study, tests)
    for way in reached_ways(study):
        if not gone >> way & 1:
            test = known_least(study, way)
            found.append(test)
            gone |= known_run(study, test).way_bits
    return found
