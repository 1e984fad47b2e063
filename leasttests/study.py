"""What is known of a program: each thing is found when it is first asked for, and kept."""

from leasttests.crowd import Crowd, told_apart
from leasttests.least import least_numbers
from leasttests.reach import explore, least_path
from leasttests.runs import run_test


# apart holds for a test which changes were asked for so far, and those of them that it tells.
class Study:
    def __init__(self, program):
        self.program = program
        self.reach = None
        self.crowd = None
        self.runs = {}
        self.apart = {}
        self.least = {}


def known_run(study, test):
    if test not in study.runs:
        study.runs[test] = run_test(study.program, test)
    return study.runs[test]


def known_reach(study):
    if study.reach is None:
        study.reach = explore(study.program)
    return study.reach


def known_crowd(study):
    if study.crowd is None:
        study.crowd = Crowd(study.program)
    return study.crowd


def known_changes(study):
    return known_crowd(study).changes


# All changes, as bits.
def every_change(study):
    return known_crowd(study).every


# Those of the changes, as bits, that the test tells from the program.
def known_apart(study, test, changes):
    asked, apart = study.apart.get(test, (0, 0))
    more = changes & ~asked
    if more:
        apart |= told_apart(known_crowd(study), more, test, known_run(study, test))
        study.apart[test] = (asked | more, apart)
    return apart & changes


# Only for a way that some test goes.
def known_least(study, way):
    if way not in study.least:
        path = least_path(known_reach(study), way)
        study.least[way] = tuple(least_numbers(study.program.nodes, path))
    return study.least[way]


def reached_ways(study):
    return sorted(known_reach(study).fewest)
