"""Spans: for each place of a text, the places up to which there is something from there on.

The places of a text are those ahead of its letters and behind the last one. Places are kept as an
integer, in which the k-th bit is 1 for the k-th place.
"""

from threescribes.settexts import parts_first, parts_of


def places_in(mask):
    """The list of the places that an integer keeps, in ascending order."""
    found = []
    while mask:
        last = mask & -mask
        found.append(last.bit_length() - 1)
        mask ^= last
    return found


def all_places(begin, end):
    """The places from begin to end, both included; none if the begin is just behind the end."""
    return (1 << (end + 1)) - (1 << begin)


def spans_of(tree, text):
    """For each place of a text the places up to which it is in the set of a set tree, from there on."""
    made = []
    # Trees of long texts are nested deeply, so this goes through them without recursion.
    for node in parts_first(tree):
        below = [made.pop() for _ in parts_of(node)]
        made.append(spans_of_node(node, below[::-1], text))
    return made[0]


def spans_of_node(node, below, text):
    """The spans of a set tree, of which those of its parts are given."""
    name = node[0]
    ends = list(range(len(text) + 1))
    if name == "letter" or name == "any":
        return [1 << (k + 1) if name == "any" or sign == node[1] else 0 for k, sign in enumerate(text)] + [0]
    if name == "nothing":
        return [1 << k for k in ends]
    if name == "never":
        return [0 for _ in ends]
    if name == "or":
        return [one | other for one, other in zip(below[0], below[1])]
    if name == "row":
        return row_spans(below[0], below[1])
    if name == "maybe":
        return [mask | 1 << k for k, mask in enumerate(below[0])]
    if name == "not":
        return [all_places(k, len(text)) & ~mask for k, mask in enumerate(below[0])]
    stars = star_spans(below[0])
    return stars if name == "star" else row_spans(below[0], stars)


def row_spans(one, other):
    """The spans of the first kind followed by spans of the second kind."""
    found = []
    for mask in one:
        behind = 0
        for place in places_in(mask):
            behind |= other[place]
        found.append(behind)
    return found


def star_spans(spans):
    """The rows of any number of spans, one behind the other."""
    found = [0] * len(spans)
    for begin in range(len(spans) - 1, -1, -1):
        behind = 1 << begin
        for place in places_in(spans[begin] & ~behind):
            behind |= found[place]
        found[begin] = behind
    return found


def ways_from(begin, last, ends_at):
    """The ways to cut a text from one place on into pieces, none of them empty, that end at the last place or before.

    ends_at(place) are the places at which a piece may end that begins there. What is returned is the
    places up to which there is just one way, and a dict with the place at which the last piece begins.
    """
    once = 1 << begin
    twice = 0
    begins = {}
    for place in range(begin, last):
        if once >> place & 1:
            ends = ends_at(place) & all_places(place + 1, last)
            for end in places_in(ends & ~once):
                begins[end] = place
            twice |= once & ends
            if twice >> place & 1:
                twice |= ends
            once |= ends
    return once & ~twice, begins


def borders(begin, end, begins):
    """The borders of the pieces of a way, the first and the last one included."""
    found = [end]
    while found[-1] != begin:
        found.append(begins[found[-1]])
    return found[::-1]
