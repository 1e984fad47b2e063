"""What is known of a program: each thing is found when it is first asked for, and kept."""

from leasttests.crowd import Crowd, told_apart
from leasttests.least import least_numbers
from leasttests.reach import explore, least_path
from leasttests.runs import run_test


class Study:
    def __init__(self, program):
        self.program = program
        self.reach = None
        self.crowd = None
        self.runs = {}
        self.apart = {}
        self.least = {}


def known_run(study, test):
    if test not in study.runs:
        study.runs[test] = run_test(study.program, test)
    return study.runs[test]


def known_reach(study):
    if study.reach is None:
        study.reach = explore(study.program)
    return study.reach


# The changes, as bits, that the test tells from the program.
def known_apart(study, test):
    if study.crowd is None:
        study.crowd = Crowd(study.program)
    if test not in study.apart:
        study.apart[test] = told_apart(study.crowd, test, known_run(study, test))
    return study.apart[test]


# Only for a way that some test goes.
def known_least(study, way):
    if way not in study.least:
        path = least_path(known_reach(study), way)
        study.least[way] = tuple(least_numbers(study.program.nodes, path))
    return study.least[way]


def reached_ways(study):
    return sorted(known_reach(study).fewest)
