"""The run of a program with a test."""

from leasttests.stretch import AT_FIRST, WAITS, held_after, known_stretch, told_in


class Run:
    def __init__(self, how, reads, told, way_bits):
        self.how = how
        self.reads = reads
        self.told = told
        self.way_bits = way_bits


def run_test(program, test):
    node = 0
    held = AT_FIRST
    told = []
    way_bits = 0
    reads = 0
    while True:
        stretch = known_stretch(program, node, held)
        told.extend(told_in(stretch, held))
        way_bits |= stretch.way_bits
        if stretch.how != WAITS or reads == len(test):
            return Run(stretch.how, reads, told, way_bits)
        held = held_after(stretch, held, test[reads])
        node = stretch.follow
        reads += 1
