"""Forks of pens: the reason why there is no plain pen with the same function."""

from threescribes.boxes import classes_behind
from threescribes.pairs import live_pairs
from threescribes.plans import sources_of_classes


def class_of_text(boxes, text, number):
    """The class of a text with a class behind it."""
    for sign in text[::-1]:
        number = boxes[2][number][boxes[1].index(sign)]
    return number


def written_by(pen, state, text, number):
    """The state to which a pen comes by reading a text with a class behind it, and what it writes, or None."""
    indices = [pen[1].index(sign) for sign in text]
    strings = []
    for k, behind in zip(indices, classes_behind(pen[2], indices, number)):
        entry = pen[4][state][k][behind]
        if entry is None:
            return None
        state = entry[0]
        strings.extend(entry[1][0][1:])
    return state, "".join(strings)


def part_in_the_end(one, other):
    """Whether the endless strings of two pairs part: the first member of each, and the second one again and again."""
    begin, again = one
    other_begin, other_again = other
    if len(again) != len(other_again) or again == "":
        return len(again) != len(other_again)
    # From some place on both are made of pieces of this length.
    many = max(len(begin), len(other_begin)) + len(again)
    return (begin + again * many)[:many] != (other_begin + other_again * many)[:many]


class ForkSearch:
    """The search for a fork: two classes of the rest are followed side by side, with what one has written more.

    A node has the states and the classes of both. A place of the search is a node with what each has written
    behind what is common to both. If the same node comes again on one path with another such rest, the
    path between is the second member of a fork: what is written on it is not the same endlessly.
    """

    def __init__(self, pen):
        self.pen = pen
        self.live = live_pairs(pen)
        self.sources = sources_of_classes(pen[2])
        self.places = []
        self.paths = []
        self.met = {}

    def fork(self):
        """A fork of the pen, or None."""
        numbers = [number for number in range(len(self.pen[2])) if (0, number) in self.live]
        waiting = []
        for number in numbers:
            for other_number in numbers:
                if number <= other_number:
                    waiting.append(self.put(((0, number, 0, other_number), ("", "")), None))
        while waiting:
            at = waiting.pop()
            for k, place in self.behind(self.places[at]):
                if place not in self.met:
                    found = self.put(place, (at, self.pen[1][k]))
                    before = self.same_before(found)
                    if before is not None:
                        return self.fork_of(before, found)
                    waiting.append(found)
        return None

    def put(self, place, path):
        """The number of a place that is met for the first time: at the beginning, or by a letter behind another one."""
        self.met[place] = True
        self.places.append(place)
        self.paths.append(path)
        return len(self.places) - 1

    def behind(self, place):
        """The places behind a place, each with the index of the letter that leads there."""
        (state, number, other_state, other_number), rests = place
        found = []
        for k, behind in self.sources[number]:
            step = self.step(state, k, behind)
            for other_k, other_behind in self.sources[other_number]:
                other_step = self.step(other_state, k, other_behind) if other_k == k else None
                if step is not None and other_step is not None:
                    node = (step[0], behind, other_step[0], other_behind)
                    found.append((k, (node, without_common(rests[0] + step[1], rests[1] + other_step[1]))))
        return found

    def step(self, state, k, number):
        """The next state and what is written, or None if there is no value behind it."""
        entry = self.pen[4][state][k][number]
        if entry is None or (entry[0], number) not in self.live:
            return None
        return entry[0], "".join(entry[1][0][1:])

    def same_before(self, at):
        """The number of a place on the path to a place that has the same node, or None."""
        node = self.places[at][0]
        path = self.paths[at]
        while path is not None:
            if self.places[path[0]][0] == node:
                return path[0]
            path = self.paths[path[0]]
        return None

    def text_to(self, at, begin):
        """The text that leads to a place, from another place on its path or from the beginning for None."""
        signs = []
        while at != begin and self.paths[at] is not None:
            at, sign = self.paths[at]
            signs.append(sign)
        return "".join(signs[::-1])

    def fork_of(self, before, at):
        """The fork of two places on a path with the same node."""
        ways = ways_to_ends(self.pen)
        state, number, other_state, other_number = self.places[at][0]
        return (self.text_to(before, None), self.text_to(at, before), ways[(state, number)],
                ways[(other_state, other_number)])


def without_common(one, other):
    """What is left of two strings without their common beginning."""
    many = 0
    while many < len(one) and many < len(other) and one[many] == other[many]:
        many += 1
    return one[many:], other[many:]


def ways_to_ends(boxes):
    """For each pair of a state and a class of the rest from which some rest leads to an end, such a rest."""
    letters, ahead, rows, ends = boxes[1], boxes[2], boxes[4], boxes[5]
    sources = {}
    for state, by_letter in enumerate(rows):
        for k, entries in enumerate(by_letter):
            for behind, entry in enumerate(entries):
                if entry is not None:
                    sources.setdefault((entry[0], behind), []).append(((state, ahead[behind][k]), letters[k]))
    ways = {(state, 0): "" for state, end in enumerate(ends) if end is not None}
    waiting = list(ways)
    at = 0
    while at < len(waiting):
        for pair, sign in sources.get(waiting[at], []):
            if pair not in ways:
                ways[pair] = sign + ways[waiting[at]]
                waiting.append(pair)
        at += 1
    return ways
