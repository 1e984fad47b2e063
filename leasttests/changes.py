"""The changes of a program, each of one number of one node."""

from leasttests.program import Program, spans


# Triples of node, place in its row, and new number, in the order in which changes are numbered.
def all_changes(program):
    found = []
    size = len(program.nodes)
    for i, row in enumerate(program.nodes):
        for place, span in enumerate(spans(row[0], program.variables, size), start=1):
            if span is not None:
                found.extend([(i, place, n) for n in range(span[0], span[1] + 1) if n != row[place]])
    return found


def changed_nodes(program, change):
    i, place, number = change
    row = program.nodes[i]
    nodes = list(program.nodes)
    nodes[i] = row[:place] + (number,) + row[place + 1:]
    return nodes


def changed_program(program, change):
    return Program(program.variables, changed_nodes(program, change))
