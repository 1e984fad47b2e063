"""What kept tests do together. A test is a tuple of numbers."""

from leasttests.study import known_apart, known_least, known_run, reached_ways


def ways_gone(study, tests):
    bits = 0
    for test in tests:
        bits |= known_run(study, test).way_bits
    return bits


def changes_told(study, tests):
    bits = 0
    for test in tests:
        bits |= known_apart(study, test)
    return bits


# Ways come first, as they are found much sooner than what a test tells apart.
def is_needless(study, test, others):
    if known_run(study, test).way_bits & ~ways_gone(study, others):
        return False
    return known_apart(study, test) & ~changes_told(study, others) == 0


def without(tests, k):
    return tests[:k] + tests[k + 1:]


def needful_tests(study, tests):
    left = tests
    for k in range(len(tests) - 1, -1, -1):
        others = without(left, k)
        if is_needless(study, left[k], others):
            left = others
    return left


# The least tests of the ways, by numbers, that neither these tests nor those found before go.
def missing_tests(study, tests):
    found = []
    gone = ways_gone(study, tests)
    for way in reached_ways(study):
        if not gone >> way & 1:
            test = known_least(study, way)
            found.append(test)
            gone |= known_run(study, test).way_bits
    return found
