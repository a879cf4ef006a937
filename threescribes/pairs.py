"""Pairs of a state of a box machine and the class of the rest that it has ahead.

A text and its rest lead to such a pair. A table tells, for each class, in which state the machine is
behind a text if its rest has this class; so it can be found from left to right.
"""

from threescribes.reach import spread

STOPPED = -1


def met_pairs(boxes):
    """The pairs that some text and some rest may lead to, as the keys of a dict."""
    ahead, rows = boxes[2], boxes[4]
    steps = [[] for _ in ahead]
    for behind, classes in enumerate(ahead):
        for k, number in enumerate(classes):
            steps[number].append((k, behind))
    met = {(0, number): True for number in range(len(ahead))}
    waiting = list(met)
    while waiting:
        state, number = waiting.pop()
        for k, behind in steps[number]:
            entry = rows[state][k][behind]
            if entry is not None and (entry[0], behind) not in met:
                met[(entry[0], behind)] = True
                waiting.append((entry[0], behind))
    return met


def live_pairs(boxes):
    """The pairs behind which some rest of the class leads to an end, as the keys of a dict."""
    ahead, rows, ends = boxes[2], boxes[4], boxes[5]
    sources = {}
    for state, by_letter in enumerate(rows):
        for k, entries in enumerate(by_letter):
            for behind, entry in enumerate(entries):
                if entry is not None:
                    sources.setdefault((entry[0], behind), []).append((state, ahead[behind][k]))
    return spread([(state, 0) for state, end in enumerate(ends) if end is not None], sources)


def first_table(boxes, live):
    """The table of the empty text."""
    return tuple([0 if (0, number) in live else STOPPED for number in range(len(boxes[2]))])


def next_table(boxes, live, table, k):
    """The table of a text with the k-th letter behind it. Only pairs that are live stand in tables."""
    ahead, rows = boxes[2], boxes[4]
    found = []
    for number, classes in enumerate(ahead):
        state = table[classes[k]]
        entry = None if state == STOPPED else rows[state][k][number]
        lost = entry is None or (entry[0], number) not in live
        found.append(STOPPED if lost else entry[0])
    return tuple(found)
