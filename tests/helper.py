"""What the tests share: calls written by name, answers split, and a plain run to hold the program against."""

from itertools import product

from leasttests.bench import answers

LARGEST = 4294967295

FILL = [4]
FEWER = [5]
WAYS = [7]
NEVER = [8]
GONE = [9]
MISSED = [10]
CHANGES = [12]
LIVES = [17]
NEEDLESS = [19]
STATE = [22]

X, Y, Z = 0, 1, 2


def load(variables, rows):
    numbers = [n for row in rows for n in row]
    return [0, variables, len(numbers)] + numbers


def run(test):
    return [1, len(test)] + list(test)


def keep(test):
    return [2, len(test)] + list(test)


def drop(k):
    return [3, k]


def way(i, out):
    return [6, i, out]


def who(i, out):
    return [11, i, out]


def change(k):
    return [13, k]


def take(k):
    return [14, k]


def told(k):
    return [15, k]


def tells(k, test):
    return [16, k, len(test)] + list(test)


def worth(k):
    return [18, k]


def kept(k):
    return [20, k]


def node(i):
    return [21, i]


# Nodes by name; what a kind doesn't look at is large, so that nothing may hang on it.

def end():
    return (0, LARGEST, LARGEST, LARGEST, LARGEST, LARGEST)


def read(v, a):
    return (1, v, LARGEST, LARGEST, a, LARGEST)


def put(v, c, a):
    return (2, v, LARGEST, c, a, LARGEST)


def copy(v, w, a):
    return (3, v, w, LARGEST, a, LARGEST)


def less(v, w, a, b):
    return (4, v, w, LARGEST, a, b)


def below(v, c, a, b):
    return (5, v, LARGEST, c, a, b)


def tell(v, a):
    return (6, v, LARGEST, LARGEST, a, LARGEST)


def flat(calls):
    return [n for call in calls for n in call]


def split(numbers):
    """Each call's answer out of what answers gives back."""
    found = []
    at = 0
    while at < len(numbers):
        count = numbers[at]
        found.append(numbers[at + 1:at + 1 + count])
        if len(found[-1]) != count or count < 1:
            raise AssertionError("an answer's count is wrong")
        at += 1 + count
    return found


def ask(*calls):
    """The answers of the calls, one list each."""
    found = split(answers(flat(calls)))
    if len(found) != len(calls):
        raise AssertionError("not as many answers as calls")
    return found


def last(*calls):
    return ask(*calls)[-1]


# A plain run, one step after another, as the document tells it.

def plain_run(rows, test):
    """How it comes out, how many were read, what's told, and the ways in the order gone."""
    held = [0, 0, 0]
    node = 0
    reads = 0
    told = []
    settled = 0
    path = []
    seen = set()
    while True:
        mark = (node, tuple(held))
        if mark in seen:
            return 2, reads, told[:settled], path
        seen.add(mark)
        kind, v, w, c, a, b = rows[node]
        if kind == 0:
            return 0, reads, told, path
        if kind == 1:
            if reads == len(test):
                return 1, reads, told, path
            held[v] = test[reads]
            reads += 1
            settled = len(told)
            seen = set()
        elif kind == 2:
            held[v] = c
        elif kind == 3:
            held[v] = held[w]
        elif kind == 6:
            told.append(held[v])
        else:
            out = 0 if held[v] < (held[w] if kind == 4 else c) else 1
            path.append(2 * node + out)
            node = b if out else a
            continue
        node = a


def plain_run_answer(rows, test):
    how, reads, told, path = plain_run(rows, test)
    ways = sorted(set(path))
    return [how, reads, len(told)] + list(told) + [len(ways)] + ways


def plain_ways(rows):
    return [2 * i + k for i, row in enumerate(rows) if row[0] in (4, 5) for k in (0, 1)]


def gone_by(rows, tests):
    return {way for test in tests for way in plain_run(rows, test)[3]}


LOOKS = {0: "", 1: "va", 2: "vca", 3: "vwa", 4: "vwab", 5: "vcab", 6: "va"}


def may_be(variables, rows, kind, name):
    """All that v, w, c, a or b of a node may be."""
    if name == "c":
        return range(4) if kind == 2 else range(1, 5)
    return range(variables) if name in "vw" else range(len(rows))


def plain_is_program(variables, rows):
    return 1 <= variables <= 3 and 1 <= len(rows) <= 16 and all(
        row[0] <= 6 and all(row["kvwcab".index(name)] in may_be(variables, rows, row[0], name) for name in LOOKS[row[0]])
        for row in rows)


def plain_changes(variables, rows):
    """All changed programs, in the document's order."""
    found = []
    for i, row in enumerate(rows):
        for place, name in enumerate("vwcab", start=1):
            if name in LOOKS[row[0]]:
                for n in may_be(variables, rows, row[0], name):
                    if n != row[place]:
                        changed = list(row)
                        changed[place] = n
                        found.append(list(rows[:i]) + [tuple(changed)] + list(rows[i + 1:]))
    return found


def changed_place(rows, changed):
    """The one node in which the two differ."""
    found = [i for i, row in enumerate(rows) if row != changed[i]]
    if len(found) != 1 or len(rows) != len(changed):
        raise AssertionError("not changed at one place")
    return found[0]


def number_of(variables, rows, i, name, n):
    """The number of the change of node i's v, w, c, a or b to n."""
    wanted = list(rows)
    wanted[i] = rows[i][:"kvwcab".index(name)] + (n,) + rows[i]["kvwcab".index(name) + 1:]
    return plain_changes(variables, rows).index(wanted)


def plain_told(variables, rows, test):
    """The numbers of the changes that the test tells from the program."""
    own = plain_run(rows, test)
    found = set()
    for k, changed in enumerate(plain_changes(variables, rows)):
        other = plain_run(changed, test)
        if (other[0], other[2]) != (own[0], own[2]):
            found.add(k)
    return found


def search_least(rows, longest):
    """For each way that a row of at most so many numbers goes: the least such test, by trying them all.

    No number above 3 and how many there are is needed, so none is tried.
    """
    best = {}
    for size in range(longest + 1):
        new = {}
        for test in product(range(4 + size), repeat=size):
            path = plain_run(rows, test)[3]
            for number in set(path):
                if number not in best:
                    outs = [n % 2 for n in path[:path.index(number) + 1]]
                    new.setdefault(number, []).append((outs, test))
        for number, found in new.items():
            best[number] = pick_least(found)
    return best


def pick_least(found):
    outs = min(pair[0] for pair in found)
    tests = [pair[1] for pair in found if pair[0] == outs]
    least = tuple(min(column) for column in zip(*tests))
    if least not in tests:
        raise AssertionError("there is no test whose numbers are all the least")
    return least


def search_ways(rows, bound):
    """All ways that some row goes, however long, of numbers below the bound."""
    first = (0, (0, 0, 0))
    seen = {first}
    left = [first]
    found = set()
    while left:
        node, held = left.pop()
        kind, v, w, c, a, b = rows[node]
        new = {1: range(bound), 2: [c], 3: [held[w] if kind == 3 else 0], 6: [held[v] if kind == 6 else 0]}.get(kind, ())
        spots = [(a, held[:v] + (n,) + held[v + 1:]) for n in new]
        if kind in (4, 5):
            out = 0 if held[v] < (held[w] if kind == 4 else c) else 1
            found.add(2 * node + out)
            spots = [(b if out else a, held)]
        for spot in spots:
            if spot not in seen:
                seen.add(spot)
                left.append(spot)
    return found


def random_program(source, variables, size, kinds=(0, 1, 1, 1, 2, 3, 4, 4, 4, 5, 5, 6)):
    rows = []
    for i in range(size):
        kind = source.choice(kinds)
        rows.append((
            kind, source.randrange(variables), source.randrange(variables),
            source.randrange(1, 5) if kind == 5 else source.randrange(4),
            source.randrange(size), source.randrange(size)))
    return rows


def all_least(variables, rows):
    """For each way its least test, or None, as a new object answers it."""
    numbers = plain_ways(rows)
    found = ask(load(variables, rows), *[way(n // 2, n % 2) for n in numbers])[1:]
    return {n: None if answer == [-1] else tuple(answer[1:]) for n, answer in zip(numbers, found)}


class PlainBench:
    """All calls, one after another, answered plainly. Only least tests are asked of the program itself, of a new
    object each time: other tests hold these against plain searches."""

    names = (
        "load run keep drop fill fewer way ways never gone missed who changes change take told tells lives worth"
        " needless kept node state").split()

    def __init__(self):
        self.variables = None
        self.rows = None
        self.tests = []
        self.found = {}

    def answer(self, call):
        name = self.names[call[0]]
        numbers = list(call[1:])
        if name == "load":
            return self.load(numbers[0], numbers[2:])
        if self.rows is None:
            return [-11]
        if name in ("run", "keep"):
            return getattr(self, name)(tuple(numbers[1:]))
        if name == "tells":
            return self.tells(numbers[0], tuple(numbers[2:]))
        return getattr(self, name)(*numbers)

    def once(self, *key):
        """What a plain function answers of the program as it is, found once."""
        key = (self.variables, tuple(self.rows)) + key
        if key not in self.found:
            self.found[key] = key[2](self.variables, self.rows, *key[3:])
        return self.found[key]

    def changed(self):
        return self.once(plain_changes)

    def told_by(self, test):
        return self.once(plain_told, test)

    def least(self):
        return self.once(all_least)

    def ways_by(self, tests):
        return gone_by(self.rows, tests)

    def marks(self, tests):
        """How many ways are gone, and how many changes told."""
        return len(self.ways_by(tests)), len(set().union(*[self.told_by(test) for test in tests]))

    def is_needless(self, k):
        return self.marks(self.tests) == self.marks(self.tests[:k] + self.tests[k + 1:])

    def load(self, variables, numbers):
        rows = [tuple(numbers[k:k + 6]) for k in range(0, len(numbers), 6)]
        if not plain_is_program(variables, rows):
            return [-22]
        self.variables, self.rows, self.tests = variables, rows, []
        return [len(plain_ways(rows))]

    def run(self, test):
        return [-22] if len(test) > 256 else plain_run_answer(self.rows, test)

    def keep(self, test):
        if len(test) > 256 or len(self.tests) == 32:
            return [-22 if len(test) > 256 else -28]
        self.tests = self.tests + [test]
        return [len(self.tests) - 1]

    def drop(self, k):
        if k >= len(self.tests):
            return [-2]
        self.tests = self.tests[:k] + self.tests[k + 1:]
        return [len(self.tests)]

    def fill(self):
        tests = list(self.tests)
        for number, test in self.least().items():
            if test is not None and number not in self.ways_by(tests):
                tests.append(test)
        if len(tests) > 32:
            return [-28]
        more = len(tests) - len(self.tests)
        self.tests = tests
        return [more]

    def fewer(self):
        before = len(self.tests)
        for k in reversed(range(before)):
            if self.is_needless(k):
                self.tests = self.tests[:k] + self.tests[k + 1:]
        return [before - len(self.tests)]

    def way(self, i, out):
        if out > 1 or 2 * i not in plain_ways(self.rows):
            return [-22]
        test = self.least()[2 * i + out]
        return [-1] if test is None else counted(test)

    def ways(self):
        return counted(n for n, test in self.least().items() if test is not None)

    def never(self):
        return counted(n for n, test in self.least().items() if test is None)

    def gone(self):
        return counted(sorted(self.ways_by(self.tests)))

    def missed(self):
        return counted(n for n in self.ways()[1:] if n not in self.ways_by(self.tests))

    def who(self, i, out):
        if out > 1 or 2 * i not in plain_ways(self.rows):
            return [-22]
        return counted(k for k, test in enumerate(self.tests) if 2 * i + out in self.ways_by([test]))

    def changes(self):
        return [len(self.changed())]

    def change(self, k):
        if k >= len(self.changed()):
            return [-2]
        i = changed_place(self.rows, self.changed()[k])
        return [i] + list(self.changed()[k][i])

    def take(self, k):
        if k >= len(self.changed()):
            return [-2]
        i = changed_place(self.rows, self.changed()[k])
        self.rows = self.changed()[k]
        return [i]

    def told(self, k):
        if k >= len(self.changed()):
            return [-2]
        return [j for j, test in enumerate(self.tests) if k in self.told_by(test)][:1] or [-33]

    def tells(self, k, test):
        if k >= len(self.changed()) or len(test) > 256:
            return [-2 if k >= len(self.changed()) else -22]
        return [1 if k in self.told_by(test) else 0]

    def lives(self):
        return counted(k for k in range(len(self.changed())) if self.told(k) == [-33])

    def worth(self, k):
        return [-2] if k >= len(self.tests) else [len(self.told_by(self.tests[k]))]

    def needless(self):
        return counted(k for k in range(len(self.tests)) if self.is_needless(k))

    def kept(self, k):
        return [-2] if k >= len(self.tests) else counted(self.tests[k])

    def node(self, i):
        return [-2] if i >= len(self.rows) else [0] + list(self.rows[i])

    def state(self):
        return [0, self.variables, len(self.rows), len(plain_ways(self.rows)), len(self.tests)]


def plain_bench(variables, rows, tests):
    bench = PlainBench()
    bench.load(variables, flat(rows))
    bench.tests = list(tests)
    return bench


def counted(numbers):
    numbers = list(numbers)
    return [len(numbers)] + numbers


def plainly(*calls):
    """The answers of the calls, one list each, by the plain bench."""
    bench = PlainBench()
    return [bench.answer(call) for call in calls]
