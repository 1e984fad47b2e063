"""Which changes a test tells from the program.

There are hundreds of changes, so they are run together: those that come to the
same node, hold the same and have told as much go on as one group. Only where a
stretch passes a node do the changes of that node part from the others.
Several changes at once are a whole number with a bit for each of them.
"""

from leasttests.bits import bits_of, numbers_of
from leasttests.changes import all_changes, changed_nodes
from leasttests.stretch import AT_FIRST, WAITS, held_after, known_stretch, shape, told_in, walk_stretch


class Crowd:
    def __init__(self, program):
        self.program = program
        self.changes = all_changes(program)
        self.node_rows = [changed_nodes(program, change) for change in self.changes]
        self.forks = {}


# How changes go on from one node with one shape held. touched are the changes of nodes that the
# program's own stretch passes; all others go that stretch too. done are those of the touched
# ones that are in parts: there each stretch found stands with the changes that go it.
class Fork:
    def __init__(self, stretch, touched):
        self.stretch = stretch
        self.touched = touched
        self.done = 0
        self.parts = {}


def known_fork(crowd, node, form):
    key = (node, form)
    found = crowd.forks.get(key)
    if found is None:
        stretch = known_stretch(crowd.program, node, form)
        passed = stretch.node_bits
        touched = bits_of([k for k, change in enumerate(crowd.changes) if passed >> change[0] & 1])
        found = Fork(stretch, touched)
        crowd.forks[key] = found
    return found


def add_parts(crowd, fork, node, form, bits):
    for k in numbers_of(bits):
        stretch = walk_stretch(crowd.node_rows[k], node, form)
        key = (stretch.how, stretch.variable, stretch.follow, stretch.places, stretch.said)
        before = fork.parts.get(key, (stretch, 0))
        fork.parts[key] = (before[0], before[1] | 1 << k)
    fork.done |= bits


# Pairs of a stretch and those of the changes that go it.
def stretches_of(crowd, node, held, bits):
    form = shape(held)
    fork = known_fork(crowd, node, form)
    touched = bits & fork.touched
    pairs = []
    if bits != touched:
        pairs.append((fork.stretch, bits & ~touched))
    if touched:
        if touched & ~fork.done:
            add_parts(crowd, fork, node, form, touched & ~fork.done)
        pairs.extend([(stretch, part & touched) for stretch, part in fork.parts.values() if part & touched])
    return pairs


# Moves a group on by a stretch and a number (None if none is left) into following, and answers
# which of its changes are told apart there. A group has a node, what is held, and how many
# numbers were told: the first ones of those that the run tells.
def move_group(crowd, group, bits, run, number, following):
    node, held, fit = group
    apart = 0
    for stretch, part in stretches_of(crowd, node, held, bits):
        told = told_in(stretch, held)
        reach = fit + len(told)
        if told != run.told[fit:reach]:
            apart |= part
        elif stretch.how != WAITS or number is None:
            if stretch.how != run.how or reach != len(run.told):
                apart |= part
        else:
            moved = (stretch.follow, held_after(stretch, held, number), reach)
            following[moved] = following.get(moved, 0) | part
    return apart


# The changes that the test tells from the program, whose run with it is given.
def told_apart(crowd, test, run):
    apart = 0
    groups = {(0, AT_FIRST, 0): (1 << len(crowd.changes)) - 1}
    for number in list(test) + [None]:
        following = {}
        for group, bits in groups.items():
            apart |= move_group(crowd, group, bits, run, number, following)
        groups = following
    return apart
