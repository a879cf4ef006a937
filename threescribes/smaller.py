"""Box machines made smaller: the same function without what does not matter or is there twice."""

from threescribes.blocks import blocks_of
from threescribes.reach import met_in_order, spread
from threescribes.rows import boxes_in


def smaller(boxes):
    """A box machine with the same function and nothing that it could do without."""
    found = without_lost_entries(numbered(boxes))
    found = without_idle_boxes(numbered(found))
    # Merging classes makes no states equivalent: where classes are, the entries of all states are equal.
    return numbered(with_merged_classes(with_merged_states(found)))


def numbered(boxes):
    """The machine with the states and classes that are reachable alone, numbered as they are first met."""
    ahead, rows = boxes[2], boxes[4]
    classes = met_in_order(lambda number: ahead[number])

    def behind(state):
        entries = [by_letter[number] for by_letter in rows[state] for number in classes]
        return [entry[0] for entry in entries if entry is not None]

    states = met_in_order(behind)
    state_of = {state: at for at, state in enumerate(states)}
    class_of = {number: at for at, number in enumerate(classes)}
    return rebuilt(boxes, states, classes, state_of, class_of)


def rebuilt(boxes, states, classes, state_of, class_of):
    """The machine of some states and classes, with new numbers for all states and classes that they lead to."""
    letters, ahead, many, rows, ends = boxes[1:]

    def renamed(entry):
        return None if entry is None else (state_of[entry[0]], entry[1])

    new_ahead = [tuple([class_of[goal] for goal in ahead[number]]) for number in classes]
    new_rows = [tuple([tuple([renamed(by_class[number]) for number in classes]) for by_class in rows[state]])
                for state in states]
    return ("boxes", letters, tuple(new_ahead), many, tuple(new_rows), tuple([ends[state] for state in states]))


def with_entries(boxes, change):
    """The machine with each entry that is not None changed."""
    letters, ahead, many, rows, ends = boxes[1:]
    changed = [tuple([tuple([None if entry is None else change(entry) for entry in entries]) for entries in by_letter])
               for by_letter in rows]
    return ("boxes", letters, ahead, many, tuple(changed), ends)


def without_lost_entries(boxes):
    """The machine with None for each entry behind which no end can be reached."""
    rows, ends = boxes[4:]
    sources = {}
    for state, by_letter in enumerate(rows):
        for entries in by_letter:
            for entry in entries:
                if entry is not None:
                    sources.setdefault(entry[0], []).append(state)
    live = spread([state for state, end in enumerate(ends) if end is not None], sources)
    return with_entries(boxes, lambda entry: entry if entry[0] in live else None)


def without_idle_boxes(boxes):
    """The machine without the boxes that come into no end, neither at once nor by other boxes."""
    letters, ahead, many, rows, ends = boxes[1:]
    met = [entry[1] for by_letter in rows for entries in by_letter for entry in entries if entry is not None]
    # There are far fewer news than entries.
    different = {news: True for news in met}
    into = {}
    for news in different:
        for box, row in enumerate(news):
            into.setdefault(box, []).extend(boxes_in(row))
    kept = sorted(spread([box for end in ends if end is not None for box in boxes_in(end)], into))
    if len(kept) == many:
        return boxes
    names = {box: at for at, box in enumerate(kept)}

    def renamed(row):
        return tuple([item if isinstance(item, str) else names[item] for item in row])

    fewer = {news: tuple([renamed(news[box]) for box in kept]) for news in different}
    changed = with_entries(boxes, lambda entry: (entry[0], fewer[entry[1]]))
    new_ends = tuple([None if end is None else renamed(end) for end in ends])
    return ("boxes", letters, ahead, len(kept), changed[4], new_ends)


def with_merged_states(boxes):
    """The machine with one state for all that are equivalent."""
    ahead, rows, ends = boxes[2], boxes[4], boxes[5]
    goals = []
    kinds = []
    for state, by_letter in enumerate(rows):
        entries = [entry for by_class in by_letter for entry in by_class]
        # An entry that is None leads to one more state, which leads to itself.
        goals.append([len(rows) if entry is None else entry[0] for entry in entries])
        kinds.append((ends[state], tuple([None if entry is None else entry[1] for entry in entries])))
    many = len(ahead) * len(ahead[0])
    block = blocks_of(goals + [[len(rows)] * many], kinds + [None])
    state_of = {state: block[state] for state in range(len(rows))}
    return merged(boxes, state_of, {number: number for number in range(len(ahead))})


def with_merged_classes(boxes):
    """The machine with one class for all that are equivalent."""
    ahead, rows = boxes[2], boxes[4]
    kinds = [tuple([by_class[number] for by_letter in rows for by_class in by_letter]) for number in range(len(ahead))]
    block = blocks_of(ahead, kinds)
    class_of = {number: block[number] for number in range(len(ahead))}
    return merged(boxes, {state: state for state in range(len(rows))}, class_of)


def merged(boxes, state_of, class_of):
    """The machine with one state or class, the first one, for all with the same new number."""
    state_names, states = first_ones(state_of)
    class_names, classes = first_ones(class_of)
    return rebuilt(boxes, states, classes, state_names, class_names)


def first_ones(block_of):
    """For numbers with their blocks: the place of each one's block, and the first number of each block."""
    places = {}
    firsts = []
    for number, block in block_of.items():
        if block not in places:
            places[block] = len(firsts)
            firsts.append(number)
    return {number: places[block] for number, block in block_of.items()}, firsts
