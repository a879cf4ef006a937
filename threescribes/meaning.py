"""The values of terms at texts."""

from threescribes.spans import all_places, borders, places_in, spans_of, ways_from


def value_of(tree, letters, text):
    """The value of a term at a text over the letters, or None."""
    reading = Reading(tree, letters, text)
    whole = 1 << len(text)
    return reading.value(0, len(text)) if reading.ends_at(0, whole) == whole else None


class Reading:
    """A term and a text, with what is known of the values of the term at the parts of this text.

    A part is told by the places between which it stands. Of each one it is found out once whether
    there is a value, and only if this is asked; sets of ends are the integers of spans.py.
    """

    def __init__(self, tree, letters, text):
        self.tree = tree
        self.letters = letters
        self.text = text
        self.spans = None
        self.parts = []
        terms = tree[1:]
        if tree[0] in ("word", "copy", "pick", "chain"):
            place = 2 if tree[0] == "word" else 1
            self.spans = spans_of(tree[place], text)
            terms = tree[place + 1:]
        if tree[0] == "then":
            terms = tree[1:2]
        self.parts = [Reading(term, letters, text) for term in terms]
        # The readings of the second term of a then, by the values of the first one.
        self.others = {}
        self.asked = [0] * (len(text) + 1)
        self.found = [0] * (len(text) + 1)

    def ends_at(self, begin, asked):
        """Those of some ends at which there is a value for the part from the begin to there."""
        new = asked & ~self.asked[begin]
        if new:
            self.asked[begin] |= new
            find = FINDERS[self.tree[0]]
            self.found[begin] |= find(self, begin, new)
        return asked & self.found[begin]

    def has_value(self, begin, end):
        """Whether there is a value for a part."""
        return self.ends_at(begin, 1 << end) != 0

    def value(self, begin, end):
        """The value for a part that has one."""
        write = WRITERS[self.tree[0]]
        return write(self, begin, end)

    def ways(self, begin, last):
        """The ways to cut the parts from a place on into the pieces that this term asks for."""
        if self.tree[0] == "chain":
            return ways_from(begin, last, lambda place: self.spans[place])
        return ways_from(begin, last, lambda place: self.parts[0].ends_at(place, all_places(place + 1, last)))

    def reading_of(self, value):
        """The reading of the second term of a then at a value of the first one, or None if it is no text for it."""
        if not all([sign in self.letters for sign in value]):
            return None
        if value not in self.others:
            self.others[value] = Reading(self.tree[2], self.letters, value)
        return self.others[value]


def last_of(mask):
    """The last one of some ends."""
    return mask.bit_length() - 1


def find_in_set(reading, begin, asked):
    """The ends for a word or a copy."""
    return asked & reading.spans[begin]


def find_pick(reading, begin, asked):
    """The ends for a pick."""
    inside = asked & reading.spans[begin]
    return reading.parts[0].ends_at(begin, inside) | reading.parts[1].ends_at(begin, asked & ~inside)


def find_both(reading, begin, asked):
    """The ends for a both."""
    return reading.parts[1].ends_at(begin, reading.parts[0].ends_at(begin, asked))


def find_cut(reading, begin, asked):
    """The ends for a cut."""
    last = last_of(asked)
    once = 0
    twice = 0
    for place in places_in(reading.parts[0].ends_at(begin, all_places(begin, last))):
        found = reading.parts[1].ends_at(place, asked & all_places(place, last))
        twice |= once & found
        once |= found
    return once & ~twice


def find_pieces(reading, begin, asked):
    """The ends for an each or a back."""
    return asked & reading.ways(begin, last_of(asked))[0]


def find_chain(reading, begin, asked):
    """The ends for a chain."""
    once, begins = reading.ways(begin, last_of(asked))
    found = 0
    for end in places_in(asked & once):
        places = borders(begin, end, begins)
        if all([reading.parts[0].has_value(here, there) for here, there in zip(places, places[2:])]):
            found |= 1 << end
    return found


def find_then(reading, begin, asked):
    """The ends for a then."""
    found = 0
    for end in places_in(reading.parts[0].ends_at(begin, asked)):
        value = reading.parts[0].value(begin, end)
        behind = reading.reading_of(value)
        if behind is not None and behind.has_value(0, len(value)):
            found |= 1 << end
    return found


def write_word(reading, begin, end):
    """The value of a word."""
    return reading.tree[1]


def write_copy(reading, begin, end):
    """The value of a copy."""
    return reading.text[begin:end]


def write_pick(reading, begin, end):
    """The value of a pick."""
    inside = reading.spans[begin] >> end & 1
    return reading.parts[0 if inside else 1].value(begin, end)


def write_both(reading, begin, end):
    """The value of a both."""
    return reading.parts[0].value(begin, end) + reading.parts[1].value(begin, end)


def write_cut(reading, begin, end):
    """The value of a cut."""
    one, other = reading.parts
    places = places_in(one.ends_at(begin, all_places(begin, end)))
    place = [at for at in places if other.has_value(at, end)][0]
    return one.value(begin, place) + other.value(place, end)


def write_pieces(reading, begin, end):
    """The value of an each or a back."""
    places = borders(begin, end, reading.ways(begin, end)[1])
    values = [reading.parts[0].value(here, there) for here, there in zip(places, places[1:])]
    return "".join(values[::-1] if reading.tree[0] == "back" else values)


def write_chain(reading, begin, end):
    """The value of a chain."""
    places = borders(begin, end, reading.ways(begin, end)[1])
    return "".join([reading.parts[0].value(here, there) for here, there in zip(places, places[2:])])


def write_then(reading, begin, end):
    """The value of a then."""
    value = reading.parts[0].value(begin, end)
    return reading.reading_of(value).value(0, len(value))


FINDERS = {"word": find_in_set, "copy": find_in_set, "pick": find_pick, "both": find_both, "cut": find_cut,
           "each": find_pieces, "back": find_pieces, "chain": find_chain, "then": find_then}
WRITERS = {"word": write_word, "copy": write_copy, "pick": write_pick, "both": write_both, "cut": write_cut,
           "each": write_pieces, "back": write_pieces, "chain": write_chain, "then": write_then}
