"""A program: how many variables it has, and its nodes."""

MOST_VARIABLES = 3
MOST_NODES = 16
NODE_WIDTH = 6

END = 0
READ = 1
SET = 2
COPY = 3
LESS_VARIABLE = 4
LESS_SMALL = 5
TELL = 6


# Each node is a tuple of kind, v, w, c, a, b.
class Program:
    def __init__(self, variables, nodes):
        self.variables = variables
        self.nodes = nodes
        # A program never changes, so what was found of its stretches stays true.
        self.stretches = {}


def is_comparison(row):
    return row[0] == LESS_VARIABLE or row[0] == LESS_SMALL


def all_ways(program):
    found = []
    for i, row in enumerate(program.nodes):
        if is_comparison(row):
            found.append(2 * i)
            found.append(2 * i + 1)
    return found


# For each of v, w, c, a, b the least and the largest that it may be; None where the kind doesn't look at it.
def spans(kind, variables, size):
    variable = (0, variables - 1)
    node = (0, size - 1)
    if kind == END:
        return (None, None, None, None, None)
    if kind == SET:
        return (variable, None, (0, 3), node, None)
    if kind == COPY:
        return (variable, variable, None, node, None)
    if kind == LESS_VARIABLE:
        return (variable, variable, None, node, node)
    if kind == LESS_SMALL:
        return (variable, None, (1, 4), node, node)
    return (variable, None, None, node, None)


def is_node(row, variables, size):
    if row[0] > TELL:
        return False
    for number, span in zip(row[1:], spans(row[0], variables, size)):
        if span is not None and not span[0] <= number <= span[1]:
            return False
    return True


# None where the numbers are no program.
def make_program(variables, numbers):
    size = len(numbers) // NODE_WIDTH
    if not 1 <= variables <= MOST_VARIABLES or not 1 <= size <= MOST_NODES:
        return None
    nodes = [tuple(numbers[NODE_WIDTH * i:NODE_WIDTH * (i + 1)]) for i in range(size)]
    for row in nodes:
        if not is_node(row, variables, size):
            return None
    return Program(variables, nodes)
