"""Heads of box machines.

The head goes to the right mark, and from there it writes the end's row. For a box it goes one place to the left, to
write what the box was given at the letter there; behind that it goes one place to the right again, where the
box stands in one row at most.
"""

from threescribes.pairs import STOPPED, first_table, live_pairs, next_table
from threescribes.reach import met_by_letters
from threescribes.smaller import smaller

GO = 0


def head_of(boxes):
    """A head with the same function as a box machine."""
    found = smaller(boxes)
    letters, ahead, many = found[1:4]
    live = live_pairs(found)
    # A left class is a table (pairs.py) of what stands to the left.
    tables, behind = met_by_letters(first_table(found, live), lambda table, k: next_table(found, live, table, k),
                                    len(letters))
    states = list(range(2 * many + 1))
    lefts = list(range(len(tables)))
    rights = list(range(len(ahead)))
    columns = []
    for k in range(len(letters)):
        columns.append([[moves_at_letter(found, table, k, number) for number in rights] for table in tables])
    nowhere = [None for _ in states]
    at_left = moves_at_left(many)
    columns.append([[at_left if left == 0 else nowhere for _ in rights] for left in lefts])
    columns.append([[moves_at_right(found, table) if number == 0 else nowhere for number in rights]
                    for table in tables])
    moves = [tuple([tuple([tuple([column[left][number][state] for number in rights]) for left in lefts])
                    for column in columns]) for state in states]
    return ("head", letters, tuple(behind), ahead, tuple(moves))


def entering(box):
    """The state in which the head comes from the right to write what a box holds behind the letter."""
    return 1 + box


def leaving(box, many):
    """The state in which the head comes from the left, where it has written what a box holds ahead of the letter."""
    return 1 + many + box


def going_on(row, at, state):
    """The move that writes a row from an item on: up to the next box, or to its end and on in a state."""
    string = ""
    for item in row[at:]:
        if not isinstance(item, str):
            return (entering(item), -1, string)
        string += item
    return (state, 1, string)


def moves_at_left(many):
    """The moves at the left mark, where all boxes are empty, in the order of the states."""
    return [(GO, 1, "")] + [(leaving(box, many), 1, "") for box in range(many)] + [None] * many


def moves_at_right(boxes, table):
    """The moves at the right mark, by the table of the whole text, in the order of the states."""
    many, ends = boxes[3], boxes[5]
    end = None if table[0] == STOPPED else ends[table[0]]
    if end is None:
        return [None] * (2 * many + 1)
    behind = [None] * many
    for at, item in enumerate(end):
        if not isinstance(item, str):
            behind[item] = going_on(end, at + 1, GO)
    return [going_on(end, 0, GO)] + [None] * many + behind


def moves_at_letter(boxes, table, k, number):
    """The moves at the k-th letter, by the table and the class on both sides, in the order of the states."""
    ahead, many, rows = boxes[2:5]
    state = table[ahead[number][k]]
    entry = None if state == STOPPED else rows[state][k][number]
    if entry is None:
        return [None] * (2 * many + 1)
    begin = []
    behind = [None] * many
    for box, row in enumerate(entry[1]):
        begin.append(going_on(row, 0, leaving(box, many)))
        for at, item in enumerate(row):
            if not isinstance(item, str):
                behind[item] = going_on(row, at + 1, leaving(box, many))
    return [(GO, 1, "")] + begin + behind
