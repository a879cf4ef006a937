"""Values as numbers, and what boxes hold as vectors, on which the steps of box machines are linear."""

from math import gcd

BASE = 27
STOPPED = -1


def number_of(value):
    """The number of a value, read in base 27 with the digits 1 to 26."""
    number = 0
    for sign in value:
        number = BASE * number + ord(sign) - ord("a") + 1
    return number


def weight_of(value):
    """27 to the power of the value's length."""
    weight = 1
    for _ in value:
        weight = weight * BASE
    return weight


def vector_of(values):
    """The vector of some values: all products of 1, the weight or the number of each."""
    vector = [1]
    for value in values:
        factors = (1, weight_of(value), number_of(value))
        vector = [member * factor for member in vector for factor in factors]
    return tuple(vector)


def powers_of_three(many):
    """1, 3, 9 and so on, so many of them, from the greatest one down: what the digits of an index count."""
    powers = []
    power = 1
    for _ in range(many):
        powers.append(power)
        power = 3 * power
    return powers[::-1]


def weight_terms(row, powers):
    """The weight of a row as a sum of members of a vector: a list of pairs of a factor and an index."""
    factor = 1
    index = 0
    for item in row:
        if isinstance(item, str):
            factor = factor * weight_of(item)
        else:
            index += powers[item]
    return [(factor, index)]


def number_terms(row, powers):
    """The number of a row as a sum of members of a vector likewise."""
    terms = []
    # From behind: each item counts times the weight of all that stands behind it.
    factor = 1
    index = 0
    for item in row[::-1]:
        if isinstance(item, str):
            terms.append((factor * number_of(item), index))
            factor = factor * weight_of(item)
        else:
            terms.append((factor, index + 2 * powers[item]))
            index += powers[item]
    return terms


def step_terms(news):
    """For each member of the image by some news the members that it is a sum of, with their factors."""
    powers = powers_of_three(len(news))
    found = [[(1, 0)]]
    for row in news:
        choices = ([(1, 0)], weight_terms(row, powers), number_terms(row, powers))
        found = [[(factor * other, index + more) for factor, index in terms for other, more in choice]
                 for terms in found for choice in choices]
    return found


def image(vector, all_terms):
    """The vector whose members are these sums of members of a vector."""
    return tuple([sum([factor * vector[index] for factor, index in terms]) for terms in all_terms])


def step_vector(vector, news):
    """The image of a tuple of 3 ** m integers by the news of m rows."""
    return image(vector, step_terms(news))


def end_number(vector, row):
    """The number of an end's row on a tuple of 3 ** m integers."""
    many = 0
    length = 1
    while length < len(vector):
        many += 1
        length = 3 * length
    return sum([factor * vector[index] for factor, index in number_terms(row, powers_of_three(many))])


def class_pairs(one, other):
    """The pairs of classes that one text has as a rest, in ascending order."""
    met = {(0, 0): True}
    waiting = [(0, 0)]
    while waiting:
        number, other_number = waiting.pop()
        for pair in zip(one[2][number], other[2][other_number]):
            if pair not in met:
                met[pair] = True
                waiting.append(pair)
    return tuple(sorted(met))


def steps_by_pair(one, other):
    """For each class pair the steps ahead of it, in ascending order: a letter's index and the pair behind it."""
    pairs = class_pairs(one, other)
    found = {pair: [] for pair in pairs}
    for number, other_number in pairs:
        for k, pair in enumerate(zip(one[2][number], other[2][other_number])):
            found[pair].append((k, number, other_number))
    return {pair: sorted(found[pair]) for pair in pairs}


def entry_of(boxes, state, k, number):
    """The entry of a machine in a state, or None if it has stopped."""
    return None if state == STOPPED else boxes[4][state][k][number]


def has_end(boxes, state):
    """Whether a machine ends in a state; it does not if it has stopped."""
    return state != STOPPED and boxes[5][state] is not None


def steps_behind(one, other, node, steps):
    """Some steps of a node, each with the node behind it or None."""
    found = []
    for step in steps:
        k, number, other_number = step
        entry = entry_of(one, node[0], k, number)
        other_entry = entry_of(other, node[2], k, other_number)
        state = STOPPED if entry is None else entry[0]
        other_state = STOPPED if other_entry is None else other_entry[0]
        is_lost = entry is None and other_entry is None
        found.append((step, None if is_lost else (state, number, other_state, other_number)))
    return tuple(found)


def node_steps(one, other, node):
    """The steps of a node in ascending order, each with the node behind it or None."""
    return steps_behind(one, other, node, steps_by_pair(one, other)[(node[1], node[3])])


class Images:
    """The images of the vectors at the nodes of two machines."""

    def __init__(self, one, other):
        self.one = one
        self.other = other
        self.known = {}
        self.half = powers_of_three(one[3] + 1)[0]

    def behind(self, node, step, vector):
        """The image of a vector at a node by a step."""
        k, number, other_number = step
        one, other = vector[:self.half], vector[self.half:]
        return (self.image_of_half(entry_of(self.one, node[0], k, number), one)
                + self.image_of_half(entry_of(self.other, node[2], k, other_number), other))

    def image_of_half(self, entry, vector):
        """The image of one machine's half of a vector by its entry."""
        if entry is None:
            return (0,) * len(vector)
        if entry[1] not in self.known:
            self.known[entry[1]] = step_terms(entry[1])
        return image(vector, self.known[entry[1]])


class Space:
    """Vectors none of which can be written over the others, one more at a time, and what can be written over them.

    Each of rows is (pivot, row, parts): a sum of the vectors, each times its part, that is 0 where the other
    rows have their pivots, and above 0 at its own one.
    """

    def __init__(self):
        self.many = 0
        self.rows = []

    def reduced(self, vector):
        """What is left of a vector: (times, rest, parts), so that times the vector is the rest and a sum by parts."""
        times = 1
        met = [row for row in self.rows if vector[row[0]] != 0]
        for pivot, row, _ in met:
            times = times * (row[pivot] // gcd(row[pivot], times))
        rest = [times * member for member in vector]
        parts = [0] * self.many
        for pivot, row, row_parts in met:
            factor = times // row[pivot] * vector[pivot]
            rest = [member - factor * other for member, other in zip(rest, row)]
            parts = [part + factor * other for part, other in zip(parts, row_parts)]
        return times, rest, parts

    def writing_of(self, vector):
        """The writing of a vector in the least numbers, or None."""
        times, rest, parts = self.reduced(vector)
        return None if any(rest) else least_writing(times, parts)

    def put(self, vector):
        """The writing of a vector, which is added if it could not be written without."""
        times, rest, parts = self.reduced(vector)
        pivot = 0
        while pivot < len(rest) and rest[pivot] == 0:
            pivot += 1
        if pivot == len(rest):
            return least_writing(times, parts)
        sign = 1 if rest[pivot] > 0 else -1
        new_parts = [-sign * part for part in parts] + [sign * times]
        new = cut_down((pivot, [sign * member for member in rest], new_parts))
        self.rows = [without(row, new) for row in self.rows] + [new]
        self.many += 1
        return (1, (0,) * (self.many - 1) + (1,))


def least_writing(times, parts):
    """A writing divided by what divides all of it."""
    divisor = divisor_of([times] + parts)
    return (times // divisor, tuple([part // divisor for part in parts]))


def divisor_of(numbers):
    """The greatest integer that divides all of them, 0 if all are 0."""
    divisor = 0
    for number in numbers:
        divisor = gcd(divisor, number)
        if divisor == 1:
            return 1
    return divisor


def cut_down(row):
    """A row of a space divided by what divides all of it."""
    pivot, members, parts = row
    divisor = divisor_of(parts + members)
    if divisor == 1:
        return row
    return (pivot, [member // divisor for member in members], [part // divisor for part in parts])


def without(row, new):
    """A row of a space changed so that it is 0 at the pivot of a new one, which has one part more."""
    pivot, members, parts = row
    new_pivot, new_members, new_parts = new
    if members[new_pivot] == 0:
        return (pivot, members, parts + [0])
    divisor = gcd(members[new_pivot], new_members[new_pivot])
    times = new_members[new_pivot] // divisor
    factor = members[new_pivot] // divisor
    changed = [times * member - factor * other for member, other in zip(members, new_members)]
    return cut_down((pivot, changed, [times * part - factor * other for part, other in zip(parts + [0], new_parts)]))


def written(vectors, vector):
    """The writing (times, parts) of a vector over vectors none of which can be written over the others, or None."""
    space = Space()
    for member in vectors:
        space.put(member)
    return space.writing_of(vector)
