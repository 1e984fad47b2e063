"""The calls on one object, from a list of whole numbers to a list of whole numbers."""

from leasttests.bits import numbers_of
from leasttests.changes import changed_nodes, changed_program
from leasttests.kept import (
    first_teller, living_changes, missing_tests, needful_tests, needless_tests, ways_gone, without)
from leasttests.program import all_ways, is_comparison, make_program
from leasttests.study import (
    Study, every_change, known_apart, known_changes, known_least, known_run, reached_ways)

MOST_KEPT = 32
LONGEST_TEST = 256

NO_TEST_GOES = -1
NONE_SUCH = -2
NO_PROGRAM = -11
NOT_AS_TOLD = -22
TOO_MANY = -28
IT_LIVES = -33

# For each call of the interface, by its number: how many whole numbers it has, and how many rows behind them.
FORMS = (
    (1, 1), (0, 1), (0, 1), (1, 0), (0, 0), (0, 0), (2, 0), (0, 0), (0, 0), (0, 0), (0, 0), (2, 0),
    (0, 0), (1, 0), (1, 0), (1, 0), (1, 1), (0, 0), (1, 0), (0, 0), (1, 0), (1, 0), (0, 0),
)


# study is None till a program is loaded. studies holds all so far, as a change may be changed back.
class Bench:
    def __init__(self):
        self.study = None
        self.studies = {}
        self.tests = []


def set_program(bench, program):
    if bench.study is not None:
        # Its crowd takes much room, and what that has answered is kept without it.
        bench.study.crowd = None
    key = (program.variables, tuple(program.nodes))
    if key not in bench.studies:
        bench.studies[key] = Study(program)
    bench.study = bench.studies[key]


def counted(numbers):
    return [len(numbers)] + list(numbers)


def is_way(bench, i, out):
    nodes = bench.study.program.nodes
    return i < len(nodes) and is_comparison(nodes[i]) and out <= 1


def load(bench, numbers, row):
    program = make_program(numbers[0], row)
    if program is None:
        return [NOT_AS_TOLD]
    set_program(bench, program)
    bench.tests = []
    return [len(all_ways(program))]


def run(bench, numbers, row):
    if len(row) > LONGEST_TEST:
        return [NOT_AS_TOLD]
    found = known_run(bench.study, tuple(row))
    return [found.how, found.reads] + counted(found.told) + counted(numbers_of(found.way_bits))


def keep(bench, numbers, row):
    if len(row) > LONGEST_TEST:
        return [NOT_AS_TOLD]
    if len(bench.tests) >= MOST_KEPT:
        return [TOO_MANY]
    bench.tests.append(tuple(row))
    return [len(bench.tests) - 1]


def drop(bench, numbers, row):
    if numbers[0] >= len(bench.tests):
        return [NONE_SUCH]
    bench.tests = without(bench.tests, numbers[0])
    return [len(bench.tests)]


def fill(bench, numbers, row):
    found = missing_tests(bench.study, bench.tests)
    if len(bench.tests) + len(found) > MOST_KEPT:
        return [TOO_MANY]
    bench.tests.extend(found)
    return [len(found)]


def fewer(bench, numbers, row):
    before = len(bench.tests)
    bench.tests = needful_tests(bench.study, bench.tests)
    return [before - len(bench.tests)]


def way(bench, numbers, row):
    i, out = numbers
    if not is_way(bench, i, out):
        return [NOT_AS_TOLD]
    if 2 * i + out not in reached_ways(bench.study):
        return [NO_TEST_GOES]
    return counted(known_least(bench.study, 2 * i + out))


def ways(bench, numbers, row):
    return counted(reached_ways(bench.study))


def never(bench, numbers, row):
    reached = reached_ways(bench.study)
    return counted([number for number in all_ways(bench.study.program) if number not in reached])


def gone(bench, numbers, row):
    return counted(numbers_of(ways_gone(bench.study, bench.tests)))


def missed(bench, numbers, row):
    bits = ways_gone(bench.study, bench.tests)
    return counted([number for number in reached_ways(bench.study) if not bits >> number & 1])


def who(bench, numbers, row):
    i, out = numbers
    if not is_way(bench, i, out):
        return [NOT_AS_TOLD]
    bit = 1 << 2 * i + out
    return counted([k for k, test in enumerate(bench.tests) if known_run(bench.study, test).way_bits & bit])


def has_change(bench, k):
    return k < len(known_changes(bench.study))


def changes(bench, numbers, row):
    return [len(known_changes(bench.study))]


def change(bench, numbers, row):
    k = numbers[0]
    if not has_change(bench, k):
        return [NONE_SUCH]
    found = known_changes(bench.study)[k]
    return [found[0]] + list(changed_nodes(bench.study.program, found)[found[0]])


def take(bench, numbers, row):
    k = numbers[0]
    if not has_change(bench, k):
        return [NONE_SUCH]
    found = known_changes(bench.study)[k]
    set_program(bench, changed_program(bench.study.program, found))
    return [found[0]]


def told(bench, numbers, row):
    k = numbers[0]
    if not has_change(bench, k):
        return [NONE_SUCH]
    found = first_teller(bench.study, bench.tests, k)
    return [IT_LIVES if found is None else found]


def tells(bench, numbers, row):
    k = numbers[0]
    if not has_change(bench, k):
        return [NONE_SUCH]
    if len(row) > LONGEST_TEST:
        return [NOT_AS_TOLD]
    return [1 if known_apart(bench.study, tuple(row), 1 << k) else 0]


def lives(bench, numbers, row):
    return counted(numbers_of(living_changes(bench.study, bench.tests)))


def worth(bench, numbers, row):
    k = numbers[0]
    if k >= len(bench.tests):
        return [NONE_SUCH]
    return [len(numbers_of(known_apart(bench.study, bench.tests[k], every_change(bench.study))))]


def needless(bench, numbers, row):
    return counted(needless_tests(bench.study, bench.tests))


def kept_test(bench, numbers, row):
    k = numbers[0]
    if k >= len(bench.tests):
        return [NONE_SUCH]
    return counted(bench.tests[k])


def node(bench, numbers, row):
    i = numbers[0]
    nodes = bench.study.program.nodes
    if i >= len(nodes):
        return [NONE_SUCH]
    return [0] + list(nodes[i])


def state(bench, numbers, row):
    program = bench.study.program
    return [0, program.variables, len(program.nodes), len(all_ways(program)), len(bench.tests)]


CALLS = (
    load, run, keep, drop, fill, fewer, way, ways, never, gone, missed, who,
    changes, change, take, told, tells, lives, worth, needless, kept_test, node, state,
)


def answer_call(bench, call, numbers, row):
    if bench.study is None and call != 0:
        return [NO_PROGRAM]
    return CALLS[call](bench, numbers, row)


def answers(calls):
    bench = Bench()
    found = []
    at = 0
    while at < len(calls):
        call = calls[at]
        plain, rows = FORMS[call]
        numbers = calls[at + 1:at + 1 + plain]
        at += 1 + plain
        row = []
        if rows == 1:
            row = calls[at + 1:at + 1 + calls[at]]
            at += 1 + len(row)
        found.extend(counted(answer_call(bench, call, numbers, row)))
    return found
