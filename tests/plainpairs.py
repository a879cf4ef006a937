"""Pairs of box machines over the same letters that are alike, and such that one of them was changed a little."""

from plainboxes import any_boxes


def doubled(chance, boxes):
    """The same function with each state and each class twice, and with the boxes in another order."""
    _, letters, ahead, many, rows, ends = boxes
    order = list(range(many))
    chance.shuffle(order)

    def renamed(row):
        return tuple(item if isinstance(item, str) else order[item] for item in row)

    def entry(found):
        if found is None:
            return None
        news = [()] * many
        for box, row in enumerate(found[1]):
            news[order[box]] = renamed(row)
        return (found[0] + len(ends) * chance.randrange(2), tuple(news))

    twice = tuple(tuple(goal + len(ahead) * chance.randrange(2) for goal in goals) for goals in ahead + ahead)
    new_rows = tuple(tuple(tuple(entry(found) for found in entries + entries) for entries in by_letter) for by_letter in rows + rows)
    return ("boxes", letters, twice, many, new_rows, tuple(None if row is None else renamed(row) for row in ends + ends))


def changed(chance, boxes):
    """A machine with one end, one entry or one string changed."""
    _, letters, ahead, many, rows, ends = boxes
    state, k, number = chance.randrange(len(ends)), chance.randrange(len(letters)), chance.randrange(len(ahead))
    kind = chance.randrange(4)
    if kind == 0:
        return boxes[:5] + (put(ends, state, None if ends[state] is not None else ("x",)),)
    if kind == 1 and ends[state] is not None:
        return boxes[:5] + (put(ends, state, other_string(ends[state])),)
    entry = rows[state][k][number]
    if entry is None:
        entry = (state, tuple((box,) for box in range(many)))
    elif kind == 2 or many == 0:
        entry = None if chance.random() < 0.5 else ((entry[0] + 1) % len(ends), entry[1])
    else:
        box = chance.randrange(many)
        entry = (entry[0], put(entry[1], box, other_string(entry[1][box])))
    return boxes[:4] + (put(rows, state, put(rows[state], k, put(rows[state][k], number, entry))), ends)


def put(row, at, thing):
    return row[:at] + (thing,) + row[at + 1:]


def other_string(row):
    """A row with another string at its end."""
    return row[:-1] + (row[-1] + "a",) if row and isinstance(row[-1], str) else row + ("a",)


def small_boxes(chance, letters=("a", "ab", "abc"), most=2):
    """Some right box machine of which the pairs are not too large."""
    return any_boxes(chance, chance.choice(letters), chance.randrange(1, 4), chance.randrange(1, 3), chance.randrange(most + 1),
                     chance.choice((0, 0.1, 0.3)), chance.choice((0, 0.3, 0.6)))
