"""Which changes a test tells from the program.

There are hundreds of changes, so they are run together: those that come to the
same node, hold the same and have told as much go on as one group. Only where a
stretch passes a node do the changes of that node part from the others.
Several changes at once are a whole number with a bit for each of them.
"""

from leasttests.bits import bits_of, numbers_of
from leasttests.changes import all_changes, changed_nodes
from leasttests.stretch import AT_FIRST, SMALL, WAITS, known_stretch, shape, walk_stretch


# of_node holds the changes of each node, forks for each node what is known by the shape held there.
class Crowd:
    def __init__(self, program):
        self.program = program
        self.changes = all_changes(program)
        self.every = (1 << len(self.changes)) - 1
        self.of_node = [changes_of_node(self.changes, i) for i in range(len(program.nodes))]
        self.forks = [{} for row in program.nodes]


# How changes go on from one node with one shape held. touched are the changes of nodes that the
# program's own stretch passes; all others go that stretch too. done are those of the touched
# ones that are in parts: there each stretch found stands with the changes that go it.
# moves keeps the parts of those touched in a group, as most groups come again and again.
class Fork:
    def __init__(self, stretch, touched):
        self.stretch = stretch
        self.touched = touched
        self.done = 0
        self.parts = {}
        self.moves = {}


def changes_of_node(changes, i):
    return bits_of([k for k, change in enumerate(changes) if change[0] == i])


def make_fork(crowd, node, form):
    stretch = known_stretch(crowd.program, node, form)
    touched = 0
    for i in numbers_of(stretch.node_bits):
        touched |= crowd.of_node[i]
    return Fork(stretch, touched)


def add_parts(crowd, fork, node, form, bits):
    for k in numbers_of(bits):
        stretch = walk_stretch(changed_nodes(crowd.program, crowd.changes[k]), node, form)
        key = (stretch.how, stretch.follow, stretch.places, stretch.said)
        before = fork.parts.get(key, (stretch, 0))
        fork.parts[key] = (before[0], before[1] | 1 << k)
    fork.done |= bits


def find_parts(crowd, fork, node, form, touched):
    if touched & ~fork.done:
        add_parts(crowd, fork, node, form, touched & ~fork.done)
    return [(stretch, part & touched) for stretch, part in fork.parts.values() if part & touched]


# Pairs of a stretch and those of the changes that go it.
def known_moves(crowd, node, held, bits):
    form = shape(held)
    fork = crowd.forks[node].get(form)
    if fork is None:
        fork = make_fork(crowd, node, form)
        crowd.forks[node][form] = fork
    touched = bits & fork.touched
    if touched == 0:
        return [(fork.stretch, bits)]
    found = fork.moves.get(touched)
    if found is None:
        found = find_parts(crowd, fork, node, form, touched)
        fork.moves[touched] = found
    if touched == bits:
        return found
    return found + [(fork.stretch, bits & ~touched)]


# Moves groups on by a number (None if none is left), and answers the groups then, and which
# changes are told apart there. A group has a node, what is held, and how many numbers were
# told: the first ones of those that the run tells.
def move_groups(crowd, groups, run, number):
    following = {}
    apart = 0
    for group, bits in groups.items():
        node, held, fit = group
        pool = held + SMALL + (number,)
        for stretch, part in known_moves(crowd, node, held, bits):
            reach = fit + len(stretch.said)
            if stretch.said and [pool[place] for place in stretch.said] != run.told[fit:reach]:
                apart |= part
            elif stretch.how == WAITS and number is not None:
                x, y, z = stretch.places
                moved = (stretch.follow, (pool[x], pool[y], pool[z]), reach)
                following[moved] = following.get(moved, 0) | part
            elif stretch.how != run.how or reach != len(run.told):
                apart |= part
    return following, apart


# Those of the changes that the test tells from the program, whose run with it is given.
def told_apart(crowd, changes, test, run):
    groups = {(0, AT_FIRST, 0): changes}
    found = 0
    for number in list(test) + [None]:
        groups, apart = move_groups(crowd, groups, run, number)
        found |= apart
    return found
