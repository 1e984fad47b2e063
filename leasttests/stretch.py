"""Stretches: what a program does from one read to the next.

Between two reads only the order of the numbers held counts, and those below 4.
So a stretch is found once for each shape of what is held, and is right for all
numbers of that shape: it says where numbers come from, not what they are.
"""

from leasttests.bits import bits_of
from leasttests.program import COPY, END, LESS_SMALL, LESS_VARIABLE, READ, SET, TELL

ENDS = 0
WAITS = 1
ROUND = 2

# A program with fewer than three variables leaves the others at 0.
AT_FIRST = (0, 0, 0)
# Within a stretch a variable holds one of the three numbers held at its beginning, or one of these.
SMALL = (0, 1, 2, 3)
# Where the number that is read next stands, behind those.
NEXT_READ = 7


# Numbers are said by their places in what was held at the beginning, SMALL, and the number read
# behind the stretch: said are those told, places those held then. A stretch that waits goes on at
# the node follow; follow and places are None where it doesn't.
class Stretch:
    def __init__(self, how, follow, places, said, path, passed):
        self.how = how
        self.follow = follow
        self.places = places
        self.said = said
        self.path = path
        self.way_bits = bits_of(path)
        self.node_bits = bits_of(passed)


# Numbers above 3 become 5, 7, 9 by their order: 4, 6, 8 and 10 are left free, so that any
# number that may be read next, below, between or above these, can be named.
def shape(held):
    x, y, z = held
    if x > 3 and y > 3 and z > 3:
        return order_of_three(x, y, z)
    if x > 3 and y > 3:
        return order_of_two(x, y) + (z,)
    if y > 3 and z > 3:
        return (x,) + order_of_two(y, z)
    if x > 3 and z > 3:
        first, second = order_of_two(x, z)
        return (first, y, second)
    return (x if x < 4 else 5, y if y < 4 else 5, z if z < 4 else 5)


def order_of_two(x, y):
    if x < y:
        return (5, 7)
    return (5, 5) if x == y else (7, 5)


def order_of_three(x, y, z):
    if x == y:
        first, second = order_of_two(x, z)
        return (first, first, second)
    if x == z or y == z:
        first, second = order_of_two(x, y)
        return (first, second, first if x == z else second)
    if x < y:
        if y < z:
            return (5, 7, 9)
        return (5, 9, 7) if x < z else (7, 9, 5)
    if x < z:
        return (7, 5, 9)
    return (9, 5, 7) if y < z else (9, 7, 5)


def known_stretch(program, node, held):
    key = (node, shape(held))
    found = program.stretches.get(key)
    if found is None:
        found = walk_stretch(program.nodes, node, key[1])
        program.stretches[key] = found
    return found


def walk_stretch(nodes, node, held):
    pool = held + SMALL
    places = [0, 1, 2]
    said = []
    path = []
    seen = {}
    how = None
    while how is None:
        kind = nodes[node][0]
        mark = (node, pool[places[0]], pool[places[1]], pool[places[2]])
        if mark in seen:
            how = ROUND
        elif kind == END:
            how = ENDS
        elif kind == READ:
            how = WAITS
        else:
            node = take_step(nodes[node], node, pool, places, said, path)
        seen[mark] = True
    return make_stretch(how, nodes[node], places, said, path, [mark[0] for mark in seen])


def make_stretch(how, row, places, said, path, passed):
    if how == ENDS:
        return Stretch(how, None, None, tuple(said), path, passed)
    if how == ROUND:
        # Where a run goes round, what it told behind its last read is not answered.
        return Stretch(how, None, None, (), path, passed)
    places[row[1]] = NEXT_READ
    return Stretch(how, row[4], tuple(places), tuple(said), path, passed)


# Brings places, said and path up to the node that comes next, and answers that.
def take_step(row, node, pool, places, said, path):
    kind, v, w, c, a, b = row
    if kind == LESS_VARIABLE or kind == LESS_SMALL:
        bound = pool[places[w]] if kind == LESS_VARIABLE else c
        out = 0 if pool[places[v]] < bound else 1
        path.append(2 * node + out)
        return a if out == 0 else b
    if kind == SET:
        places[v] = len(AT_FIRST) + c
    elif kind == COPY:
        places[v] = places[w]
    elif kind == TELL:
        said.append(places[v])
    return a


def told_in(stretch, held):
    pool = held + SMALL
    return [pool[place] for place in stretch.said]


# What is held once the number behind the stretch is read.
def held_after(stretch, held, number):
    pool = held + SMALL + (number,)
    x, y, z = stretch.places
    return (pool[x], pool[y], pool[z])
