"""The least numbers with which a program goes a given path."""

from leasttests.program import COPY, LESS_VARIABLE, READ, SET, is_comparison
from leasttests.stretch import AT_FIRST, SMALL


# A path gone before the numbers are known: a variable holds the place of its number. At the
# places 0 to 3 stand these numbers themselves, behind them those read. A bound is a triple: the
# number at the first place is not below that at the second with the third added.
class Trail:
    def __init__(self):
        self.node = 0
        self.held = list(AT_FIRST)
        self.size = len(SMALL)
        self.bounds = {}


def go_plainly(trail, row):
    kind, v, w, c, a, b = row
    if kind == READ:
        trail.held[v] = trail.size
        trail.size += 1
    elif kind == SET:
        trail.held[v] = c
    elif kind == COPY:
        trail.held[v] = trail.held[w]
    trail.node = a


# That a number is less than a small one is no bound: the least numbers keep to it, as some do.
def go_out(trail, row, out):
    kind, v, w, c, a, b = row
    held = trail.held
    if kind == LESS_VARIABLE and out == 0:
        trail.bounds[(held[w], held[v], 1)] = True
    elif kind == LESS_VARIABLE:
        trail.bounds[(held[v], held[w], 0)] = True
    elif out == 1:
        trail.bounds[(held[v], c - 1, 1)] = True
    trail.node = a if out == 0 else b


def follow_path(nodes, path):
    trail = Trail()
    for way in path:
        while not is_comparison(nodes[trail.node]):
            go_plainly(trail, nodes[trail.node])
        go_out(trail, nodes[trail.node], way % 2)
    return trail


# Answers whether a number had to be raised.
def raise_numbers(numbers, bounds):
    raised = False
    for upper, lower, gap in bounds:
        if numbers[upper] < numbers[lower] + gap:
            numbers[upper] = numbers[lower] + gap
            raised = True
    return raised


def least_numbers(nodes, path):
    trail = follow_path(nodes, path)
    bounds = list(trail.bounds)
    numbers = list(SMALL) + [0] * (trail.size - len(SMALL))
    while raise_numbers(numbers, bounds):
        # Rows of numbers that come down need the bounds from the last to the first, rising ones the other way.
        bounds.reverse()
    return numbers[len(SMALL):]
