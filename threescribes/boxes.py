"""Box machines: functions of texts, told by machines that read a text once and keep texts in boxes.

A box machine is a tuple ("boxes", letters, ahead, many, rows, ends).
"""

from threescribes.checks import are_goals, is_index, is_letters, is_text, is_tuple
from threescribes.pairs import STOPPED, first_table, live_pairs, met_pairs, next_table
from threescribes.sets import least, met_from, turned

FEW = 64


def is_boxes(thing):
    """Whether a thing is a right box machine."""
    if not is_tuple(thing, 6) or thing[0] != "boxes" or not is_letters(thing[1]):
        return False
    letters, ahead, many, rows, ends = thing[1:]
    if not are_goals(ahead, len(letters)) or not isinstance(many, int) or isinstance(many, bool) or many < 0:
        return False
    if not isinstance(ends, tuple) or len(ends) == 0 or not is_tuple(rows, len(ends)):
        return False
    words = {}
    if not all([end is None or are_rows((end,), 1, many, words) for end in ends]):
        return False
    return all([are_entries(by_letter, thing, words) for by_letter in rows])


def are_entries(thing, boxes, words):
    """Whether a thing has one right entry of rows for each letter and class of a machine."""
    letters, ahead = boxes[1:3]
    if not is_tuple(thing, len(letters)) or not all([is_tuple(entries, len(ahead)) for entries in thing]):
        return False
    return all([entry is None or is_step(entry, boxes, words) for entries in thing for entry in entries])


def is_step(thing, boxes, words):
    """Whether a thing is a pair of a state of a machine and a news for its boxes."""
    many, ends = boxes[3], boxes[5]
    return is_tuple(thing, 2) and is_index(thing[0], len(ends)) and are_rows(thing[1], many, many, words)


def are_rows(thing, long, many, words):
    """Whether a thing is a tuple of so many rows of so many boxes, with no box twice in them.

    words has the strings that were right before: large machines have few strings, each very often.
    """
    if not is_tuple(thing, long):
        return False
    used = []
    for row in thing:
        if not isinstance(row, tuple):
            return False
        is_behind_string = False
        for item in row:
            if not isinstance(item, str):
                if not is_index(item, many):
                    return False
                used.append(item)
                is_behind_string = False
            elif is_behind_string or (item not in words and not is_word(item, words)):
                return False
            else:
                is_behind_string = True
    return len(used) == len(set(used))


def is_word(string, words):
    """Whether a string consists of small letters and is not empty; if so, it is put down among the words."""
    if string == "" or not is_text(string):
        return False
    words[string] = True
    return True


def run_boxes(boxes, text):
    """The value at a text over the letters of a machine, or None."""
    letters, ahead, many, rows, ends = boxes[1:]
    indices = [letters.index(sign) for sign in text]
    state = 0
    contents = [""] * many
    for k, number in zip(indices, classes_behind(ahead, indices)):
        entry = rows[state][k][number]
        if entry is None:
            return None
        state, news = entry
        contents = [put_together(row, contents) for row in news]
    return None if ends[state] is None else put_together(ends[state], contents)


def classes_behind(ahead, indices, number=0):
    """For each of some letters, told by their indices, the class behind it, with a class behind the last one."""
    classes = []
    for k in reversed(indices):
        classes.append(number)
        number = ahead[number][k]
    return classes[::-1]


def put_together(row, contents):
    """The value of a row, of which the contents of the boxes are given."""
    return "".join([item if isinstance(item, str) else contents[item] for item in row])


def domain_of(boxes):
    """The least set machine of the texts at which a machine has a value."""
    most = FEW
    # From either side there may be far more to tell apart than the least machine does, seldom from both.
    while True:
        found = read_from_left(boxes, most)
        if found is not None:
            return least(found)
        found = read_from_right(boxes, most)
        if found is not None:
            return turned(found)
        most = 4 * most


def read_from_left(boxes, most):
    """A set machine of the texts at which there is a value, or None if it takes too many states."""
    live = live_pairs(boxes)
    ends = boxes[5]

    def step(table, k):
        return next_table(boxes, live, table, k)

    def has_end(table):
        return table[0] != STOPPED and ends[table[0]] is not None

    return met_from(boxes[1], first_table(boxes, live), step, has_end, most)


def read_from_right(boxes, most):
    """A set machine of these texts, read from the last letter, or None if it takes too many states."""
    ahead, rows, ends = boxes[2], boxes[4], boxes[5]
    met = met_pairs(boxes)

    # A key has the class of what has been read, and the states from which it leads to an end.
    def step(key, k):
        number, states = key
        begun = []
        for state, by_letter in enumerate(rows):
            entry = by_letter[k][number]
            if entry is not None and entry[0] in states and (state, ahead[number][k]) in met:
                begun.append(state)
        return (ahead[number][k], tuple(begun))

    start = tuple([state for state, end in enumerate(ends) if end is not None and (state, 0) in met])
    return met_from(boxes[1], (0, start), step, lambda key: 0 in key[1], most)
