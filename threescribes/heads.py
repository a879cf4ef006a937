"""Heads: functions of texts, told by machines that go over a text both ways and write.

A head is a tuple ("head", letters, behind, ahead, moves).
"""

from threescribes.boxes import classes_behind
from threescribes.checks import are_goals, is_index, is_letters, is_text, is_tuple


def is_head(thing):
    """Whether a thing is a right head."""
    if not is_tuple(thing, 5) or thing[0] != "head" or not is_letters(thing[1]):
        return False
    letters, behind, ahead, moves = thing[1:]
    if not are_goals(behind, len(letters)) or not are_goals(ahead, len(letters)):
        return False
    if not isinstance(moves, tuple) or len(moves) == 0:
        return False
    return all([is_tuple(numbers, len(letters) + 2) for numbers in moves]) and are_moves(thing)


def are_moves(head):
    """Whether there is a right move, or None, for each state, number, left class and right class of a head."""
    letters, behind, ahead, moves = head[1:]
    for numbers in moves:
        for number, by_left in enumerate(numbers):
            if not is_tuple(by_left, len(behind)) or not all([is_tuple(entries, len(ahead)) for entries in by_left]):
                return False
            steps = (1,) if number == len(letters) else (1, -1)
            met = [entry for entries in by_left for entry in entries if entry is not None]
            if not all([is_move(entry, len(moves), steps) for entry in met]):
                return False
    return True


def is_move(thing, states, steps):
    """Whether a thing is a triple of a state, one of these steps, and what is written."""
    if not is_tuple(thing, 3) or not is_index(thing[0], states) or not is_text(thing[2]):
        return False
    # Python counts True as 1, the program does not.
    return not isinstance(thing[1], bool) and thing[1] in steps


def is_plain(head):
    """Whether a head has one left class and one right class."""
    return len(head[2]) == 1 and len(head[3]) == 1


def run_head(head, text):
    """The value at a text over the letters of a head, or None."""
    letters, behind, ahead, moves = head[1:]
    indices = [letters.index(sign) for sign in text]
    numbers = [len(letters)] + indices + [len(letters) + 1]
    lefts = [0] + classes_before(behind, indices)
    # The left mark is ahead of the whole text, as a letter would be.
    rights = classes_behind(ahead, [0] + indices) + [0]
    place = 0
    state = 0
    written = []
    met = {}
    while place < len(numbers):
        move = moves[state][numbers[place]][lefts[place]][rights[place]]
        # In the same state at the same place again, the head never ends.
        if move is None or (state, place) in met:
            return None
        met[(state, place)] = True
        state, step, string = move
        place += step
        written.append(string)
    return "".join(written)


def classes_before(behind, indices):
    """The classes of the beginnings of a text, told by the indices of its letters, the empty one first."""
    classes = [0]
    for k in indices:
        classes.append(behind[classes[-1]][k])
    return classes
