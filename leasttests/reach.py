"""Which ways some test goes, and by which path the least test goes there.

Shapes of what is held are few. And whatever row of shapes reads lead through,
some test goes it: a number above 3 was read, and however many were read, they
can be put in any order. So what no row of shapes comes to no test comes to.
"""

from leasttests.stretch import AT_FIRST, WAITS, held_after, known_stretch, shape

# 0 to 10 stand for all that may be read where large numbers held are 5, 7, 9.
READABLE = 11


# A spot is a node and the shape held there when a stretch begins. layers holds the spots by how
# many reads they need at least; fewest holds it for each way that some test goes.
class Reach:
    def __init__(self, program):
        self.program = program
        self.layers = []
        self.fewest = {}
        self.follows = {}


def spots_behind(program, spot):
    node, held = spot
    stretch = known_stretch(program, node, held)
    found = {}
    if stretch.how == WAITS:
        for number in range(READABLE):
            found[(stretch.follow, shape(held_after(stretch, held, number)))] = True
    return list(found)


def explore(program):
    reach = Reach(program)
    layer = [(0, AT_FIRST)]
    known = {(0, AT_FIRST): True}
    while layer:
        ahead = []
        for spot in layer:
            for way in known_stretch(program, spot[0], spot[1]).path:
                reach.fewest.setdefault(way, len(reach.layers))
            reach.follows[spot] = spots_behind(program, spot)
            for behind in reach.follows[spot]:
                if behind not in known:
                    known[behind] = True
                    ahead.append(behind)
        reach.layers.append(layer)
        layer = ahead
    return reach


# The ways gone from a spot till the next read, or till the way given is gone.
def path_from(reach, spot, way):
    path = known_stretch(reach.program, spot[0], spot[1]).path
    if way in path:
        return path[:path.index(way) + 1]
    return path


# Of each layer, up to the one where the way is gone, the spots that lead there. No others count:
# a test of the fewest numbers comes to each of its spots with as few reads as can be.
def leading_layers(reach, way):
    depth = reach.fewest[way]
    found = [[spot for spot in reach.layers[depth] if way in path_from(reach, spot, way)]]
    for layer in reversed(reach.layers[:depth]):
        ahead = dict([(spot, True) for spot in found[-1]])
        found.append([spot for spot in layer if any([behind in ahead for behind in reach.follows[spot]])])
    found.reverse()
    return found


# The ways that the least test goes, in order, till it goes the way given.
def least_path(reach, way):
    path = []
    allowed = {(0, AT_FIRST): True}
    for layer in leading_layers(reach, way):
        group = [spot for spot in layer if spot in allowed]
        # All of the group went the same ways so far, so where two of them part they are at one comparison.
        best = min([path_from(reach, spot, way) for spot in group])
        path.extend(best)
        allowed = {}
        for spot in group:
            if path_from(reach, spot, way) == best:
                allowed.update(dict([(behind, True) for behind in reach.follows[spot]]))
    return path
