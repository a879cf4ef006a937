"""What the document says of numbers, vectors, nodes and papers (part 10), as plainly as it goes."""

from itertools import product
from math import gcd

SIGNS = "abcdefghijklmnopqrstuvwxyz"


def number(value):
    return sum((SIGNS.index(sign) + 1) * 27 ** place for place, sign in enumerate(reversed(value)))


def digits(many):
    """The indices of a vector of so many values, as their digits in base 3 (10.3)."""
    return list(product(range(3), repeat=many))


def vector(values):
    found = []
    for index in digits(len(values)):
        member = 1
        for digit, value in zip(index, values):
            member *= (1, 27 ** len(value), number(value))[digit]
        found.append(member)
    return tuple(found)


def times(one, other):
    """The product of two sums of products of what the boxes hold: dicts from digits to factors."""
    found = {}
    for (x, a), (y, b) in product(one.items(), other.items()):
        assert all(p == 0 or q == 0 for p, q in zip(x, y))
        key = tuple(p + q for p, q in zip(x, y))
        found[key] = found.get(key, 0) + a * b
    return found


def plus(one, other):
    return {key: one.get(key, 0) + other.get(key, 0) for key in {**one, **other}}


def row_sums(row, many):
    """1, the weight and the number of a row, as such sums (10.2: those of u followed by v)."""
    one = {(0,) * many: 1}
    weight, count = one, {}
    for item in row:
        if isinstance(item, str):
            new_weight, new_count = {(0,) * many: 27 ** len(item)}, {(0,) * many: number(item)}
        else:
            new_weight, new_count = [{tuple(digit * (box == item) for box in range(many)): 1} for digit in (1, 2)]
        weight, count = times(weight, new_weight), plus(times(count, new_weight), new_count)
    return one, weight, count


def valued(sums, old):
    """A sum of products, for a tuple of 3 ** m integers."""
    return sum(factor * old[int("0" + "".join(map(str, key)), 3)] for key, factor in sums.items())


def image(old, news):
    """The image of a tuple by the news of a step (10.4)."""
    sums = [row_sums(row, len(news)) for row in news]
    found = []
    for index in digits(len(news)):
        product_of_all = {(0,) * len(news): 1}
        for row, digit in zip(sums, index):
            product_of_all = times(product_of_all, row[digit])
        found.append(valued(product_of_all, old))
    return tuple(found)


def end(old, row, many):
    """The number of an end's row (10.4)."""
    return valued(row_sums(row, many)[2], old)


def pairs_of(one, other):
    """The class pairs (10.5), in ascending order."""
    met, new = set(), {(0, 0)}
    while new:
        met |= new
        new = {pair for c, d in met for pair in zip(one[2][c], other[2][d])} - met
    return sorted(met)


def steps_of(one, other, node):
    """The steps of a node with the nodes behind them (10.7)."""
    p, c, q, d = node
    found = []
    for k, (e, f) in product(range(len(one[1])), pairs_of(one, other)):
        if (one[2][e][k], other[2][f][k]) == (c, d):
            entries = [None if state == -1 else boxes[4][state][k][number] for boxes, state, number in ((one, p, e), (other, q, f))]
            states = [-1 if entry is None else entry[0] for entry in entries]
            found.append(((k, e, f), None if states == [-1, -1] else (states[0], e, states[1], f)))
    return sorted(found, key=lambda step: step[0])


def image_at(one, other, node, step, old):
    """The image of a vector at a node by a step (10.7)."""
    p, _, q, _ = node
    k, e, f = step
    found = ()
    for boxes, state, behind, half in ((one, p, e, old[:3 ** one[3]]), (other, q, f, old[3 ** one[3]:])):
        entry = None if state == -1 else boxes[4][state][k][behind]
        found += (0,) * len(half) if entry is None else image(half, entry[1])
    return found


def is_integer(thing):
    return type(thing) is int


def writes(writing, vectors, old):
    """Whether a thing is a writing, and writes a tuple over some vectors (10.9)."""
    if type(writing) is not tuple or len(writing) != 2 or not is_integer(writing[0]) or writing[0] < 1:
        return False
    if type(writing[1]) is not tuple or len(writing[1]) != len(vectors) or not all(map(is_integer, writing[1])):
        return False
    return all(writing[0] * member == sum(part * other[at] for part, other in zip(writing[1], vectors))
               for at, member in enumerate(old))


def fault(one, other, paper):
    """The first condition of 10.9 and 10.10 that a paper breaks, as a word, or None."""
    if type(paper) is not tuple or len(paper) != 2 or type(paper[0]) is not tuple or type(paper[1]) is not tuple:
        return "paper"
    begins, nodes = paper
    pairs = pairs_of(one, other)
    there = {}
    last = None
    for entry in nodes:
        if type(entry) is not tuple or len(entry) != 3 or any(type(part) is not tuple for part in entry):
            return "entry"
        node, vectors, steps = entry
        if len(node) != 4 or not all(map(is_integer, node)) or (node[1], node[3]) not in pairs or (node[0], node[2]) == (-1, -1):
            return "node"
        if not -1 <= node[0] < len(one[5]) or not -1 <= node[2] < len(other[5]):
            return "node"
        if last is not None and last >= node:
            return "order"
        last = node
        for old in vectors:
            if type(old) is not tuple or len(old) != 3 ** one[3] + 3 ** other[3] or not all(map(is_integer, old)):
                return "vector"
        if len(steps) != len(vectors) or any(type(part) is not tuple for part in steps):
            return "steps"
        there[node] = vectors
    if len(begins) != len(pairs):
        return "begins"
    empty = vector(("",) * one[3]) + vector(("",) * other[3])
    for (c, d), writing in zip(pairs, begins):
        if (0, c, 0, d) not in there or not writes(writing, there[(0, c, 0, d)], empty):
            return "begin"
    for node, vectors, steps in nodes:
        behind = steps_of(one, other, node)
        for old, writings in zip(vectors, steps):
            if len(writings) != len(behind):
                return "writings"
            for (step, goal), writing in zip(behind, writings):
                if goal is None and writing is not None:
                    return "nothing"
                if goal is not None and (goal not in there or not writes(writing, there[goal], image_at(one, other, node, step, old))):
                    return "writing"
        if (node[1], node[3]) == (0, 0):
            rows = [None if state == -1 else boxes[5][state] for boxes, state in ((one, node[0]), (other, node[2]))]
            if (rows[0] is None) != (rows[1] is None):
                return "parting"
            if rows[0] is not None:
                for old in vectors:
                    if end(old[:3 ** one[3]], rows[0], one[3]) != end(old[3 ** one[3]:], rows[1], other[3]):
                        return "level"
    return None


def divisor(numbers):
    found = 0
    for one in numbers:
        found = gcd(found, one)
    return found
