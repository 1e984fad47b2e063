"""What the tests share: calls written by name, answers split, and a plain run to hold the program against."""

from itertools import product

from leasttests.bench import answers

LARGEST = 4294967295

FILL = [4]
FEWER = [5]
WAYS = [7]
NEVER = [8]
GONE = [9]
MISSED = [10]

X, Y, Z = 0, 1, 2


def load(variables, rows):
    numbers = [n for row in rows for n in row]
    return [0, variables, len(numbers)] + numbers


def run(test):
    return [1, len(test)] + list(test)


def keep(test):
    return [2, len(test)] + list(test)


def drop(k):
    return [3, k]


def way(i, out):
    return [6, i, out]


def who(i, out):
    return [11, i, out]


# Nodes by name; what a kind doesn't look at is large, so that nothing may hang on it.

def end():
    return (0, LARGEST, LARGEST, LARGEST, LARGEST, LARGEST)


def read(v, a):
    return (1, v, LARGEST, LARGEST, a, LARGEST)


def put(v, c, a):
    return (2, v, LARGEST, c, a, LARGEST)


def copy(v, w, a):
    return (3, v, w, LARGEST, a, LARGEST)


def less(v, w, a, b):
    return (4, v, w, LARGEST, a, b)


def below(v, c, a, b):
    return (5, v, LARGEST, c, a, b)


def tell(v, a):
    return (6, v, LARGEST, LARGEST, a, LARGEST)


def flat(calls):
    return [n for call in calls for n in call]


def split(numbers):
    """Each call's answer out of what answers gives back."""
    found = []
    at = 0
    while at < len(numbers):
        count = numbers[at]
        found.append(numbers[at + 1:at + 1 + count])
        if len(found[-1]) != count or count < 1:
            raise AssertionError("an answer's count is wrong")
        at += 1 + count
    return found


def ask(*calls):
    """The answers of the calls, one list each."""
    found = split(answers(flat(calls)))
    if len(found) != len(calls):
        raise AssertionError("not as many answers as calls")
    return found


def last(*calls):
    return ask(*calls)[-1]


# A plain run, one step after another, as the document tells it.

def plain_run(rows, test):
    """How it comes out, how many were read, what's told, and the ways in the order gone."""
    held = [0, 0, 0]
    node = 0
    reads = 0
    told = []
    settled = 0
    path = []
    seen = set()
    while True:
        mark = (node, tuple(held))
        if mark in seen:
            return 2, reads, told[:settled], path
        seen.add(mark)
        kind, v, w, c, a, b = rows[node]
        if kind == 0:
            return 0, reads, told, path
        if kind == 1:
            if reads == len(test):
                return 1, reads, told, path
            held[v] = test[reads]
            reads += 1
            settled = len(told)
            seen = set()
        elif kind == 2:
            held[v] = c
        elif kind == 3:
            held[v] = held[w]
        elif kind == 6:
            told.append(held[v])
        else:
            out = 0 if held[v] < (held[w] if kind == 4 else c) else 1
            path.append(2 * node + out)
            node = b if out else a
            continue
        node = a


def plain_run_answer(rows, test):
    how, reads, told, path = plain_run(rows, test)
    ways = sorted(set(path))
    return [how, reads, len(told)] + list(told) + [len(ways)] + ways


def plain_ways(rows):
    return [2 * i + k for i, row in enumerate(rows) if row[0] in (4, 5) for k in (0, 1)]


def gone_by(rows, tests):
    return {way for test in tests for way in plain_run(rows, test)[3]}


def plain_changes(variables, rows):
    """All changed programs, in the document's order."""
    looks = {0: "", 1: "va", 2: "vca", 3: "vwa", 4: "vwab", 5: "vcab", 6: "va"}
    found = []
    for i, row in enumerate(rows):
        for place, name in enumerate("vwcab", start=1):
            if name in looks[row[0]]:
                may = range(variables) if name in "vw" else range(len(rows))
                if name == "c":
                    may = range(4) if row[0] == 2 else range(1, 5)
                for n in may:
                    if n != row[place]:
                        changed = list(row)
                        changed[place] = n
                        found.append(list(rows[:i]) + [tuple(changed)] + list(rows[i + 1:]))
    return found


def plain_told(variables, rows, test):
    """The numbers of the changes that the test tells from the program."""
    own = plain_run(rows, test)
    found = set()
    for k, changed in enumerate(plain_changes(variables, rows)):
        other = plain_run(changed, test)
        if (other[0], other[2]) != (own[0], own[2]):
            found.add(k)
    return found


def plain_needless(variables, rows, tests, k):
    others = tests[:k] + tests[k + 1:]
    told = [plain_told(variables, rows, test) for test in tests]
    kept = set().union(*(told[:k] + told[k + 1:]))
    return gone_by(rows, [tests[k]]) <= gone_by(rows, others) and told[k] <= kept


def plain_fewer(variables, rows, tests):
    for k in reversed(range(len(tests))):
        if plain_needless(variables, rows, tests, k):
            tests = tests[:k] + tests[k + 1:]
    return tests


def search_least(rows, longest):
    """For each way that a row of at most so many numbers goes: the least such test, by trying them all.

    No number above 3 and how many there are is needed, so none is tried.
    """
    best = {}
    for size in range(longest + 1):
        new = {}
        for test in product(range(4 + size), repeat=size):
            path = plain_run(rows, test)[3]
            for number in set(path):
                if number not in best:
                    outs = [n % 2 for n in path[:path.index(number) + 1]]
                    new.setdefault(number, []).append((outs, test))
        for number, found in new.items():
            best[number] = pick_least(found)
    return best


def pick_least(found):
    outs = min(pair[0] for pair in found)
    tests = [pair[1] for pair in found if pair[0] == outs]
    least = tuple(min(column) for column in zip(*tests))
    if least not in tests:
        raise AssertionError("there is no test whose numbers are all the least")
    return least


def search_ways(rows, bound):
    """All ways that some row goes, however long, of numbers below the bound."""
    first = (0, (0, 0, 0))
    seen = {first}
    left = [first]
    found = set()
    while left:
        node, held = left.pop()
        kind, v, w, c, a, b = rows[node]
        new = {1: range(bound), 2: [c], 3: [held[w] if kind == 3 else 0], 6: [held[v] if kind == 6 else 0]}.get(kind, ())
        spots = [(a, held[:v] + (n,) + held[v + 1:]) for n in new]
        if kind in (4, 5):
            out = 0 if held[v] < (held[w] if kind == 4 else c) else 1
            found.add(2 * node + out)
            spots = [(b if out else a, held)]
        for spot in spots:
            if spot not in seen:
                seen.add(spot)
                left.append(spot)
    return found


def random_program(source, variables, size, kinds=(0, 1, 1, 1, 2, 3, 4, 4, 4, 5, 5, 6)):
    rows = []
    for i in range(size):
        kind = source.choice(kinds)
        rows.append((
            kind, source.randrange(variables), source.randrange(variables),
            source.randrange(1, 5) if kind == 5 else source.randrange(4),
            source.randrange(size), source.randrange(size)))
    return rows
