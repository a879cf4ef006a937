"""Pens: box machines with one box that only ever write behind what they have written."""

from threescribes.boxes import run_boxes
from threescribes.forking import ForkSearch, class_of_text, part_in_the_end, written_by
from threescribes.pairs import live_pairs


def is_pen(boxes):
    """Whether a right box machine is a pen."""
    if boxes[3] != 1:
        return False
    met = [entry[1][0] for by_letter in boxes[4] for entries in by_letter for entry in entries if entry is not None]
    return all([is_behind(row) for row in met + [end for end in boxes[5] if end is not None]])


def is_behind(row):
    """Whether a row is the one box, with a string behind it or without."""
    return len(row) in (1, 2) and row[0] == 0


def is_plain_pen(boxes):
    """Whether a right box machine is a pen that knows nothing of the rest."""
    return is_pen(boxes) and len(boxes[2]) == 1


def forks(pen, fork):
    """Whether a tuple of four strings over the letters is a fork of a pen."""
    u, v, x, y = fork
    told = []
    for rest in (x, y):
        number = class_of_text(pen, rest, 0)
        if class_of_text(pen, v, number) != number or run_boxes(pen, u + rest) is None:
            return False
        # As there is a value at both together, the pen does not stop before the rest.
        begun = written_by(pen, 0, u, number)
        again = written_by(pen, begun[0], v, number)
        if again is None or again[0] != begun[0]:
            return False
        told.append((begun[1], again[1]))
    return part_in_the_end(told[0], told[1])


def without_look(pen):
    """("pen", plain pen) with the function of a pen, or ("fork", fork) if there is none."""
    fork = ForkSearch(pen).fork()
    return ("pen", plain_pen_of(pen)) if fork is None else ("fork", fork)


def plain_pen_of(pen):
    """The plain pen with the function of a pen that has no fork.

    Its states are told by keys: for each class of the rest None, if there is no value then, or the pen's state
    and what is still to be written.
    """
    letters, ahead = pen[1:3]
    live = live_pairs(pen)
    begin = tuple([(0, "") if (0, number) in live else None for number in range(len(ahead))])
    names = {begin: 0}
    keys = [begin]
    rows = []
    while len(rows) < len(keys):
        entries = []
        for k in range(len(letters)):
            common, goal = step_of(pen, live, keys[len(rows)], k)
            if goal not in names and any(goal):
                names[goal] = len(keys)
                keys.append(goal)
            entries.append(((names[goal], (row_of(common),)) if any(goal) else None,))
        rows.append(tuple(entries))
    ends = [end_of(pen, key) for key in keys]
    return ("boxes", letters, ((0,) * len(letters),), 1, tuple(rows), tuple(ends))


def step_of(pen, live, key, k):
    """What is written at the k-th letter, whatever may follow, and the key behind it."""
    found = []
    for number, classes in enumerate(pen[2]):
        before = key[classes[k]]
        entry = None if before is None else pen[4][before[0]][k][number]
        if entry is None or (entry[0], number) not in live:
            found.append(None)
        else:
            found.append((entry[0], before[1] + "".join(entry[1][0][1:])))
    common = common_beginning([thing[1] for thing in found if thing is not None])
    return common, tuple([None if thing is None else (thing[0], thing[1][len(common):]) for thing in found])


def common_beginning(strings):
    """The longest string with which all of some strings begin."""
    if strings == []:
        return ""
    least, greatest = min(strings), max(strings)
    many = 0
    while many < len(least) and least[many] == greatest[many]:
        many += 1
    return least[:many]


def end_of(pen, key):
    """The end of the plain pen in the state of a key."""
    end = None if key[0] is None else pen[5][key[0][0]]
    return None if end is None else row_of(key[0][1] + "".join(end[1:]))


def row_of(string):
    """The row that writes a string behind what the box holds."""
    return (0,) if string == "" else (0, string)
