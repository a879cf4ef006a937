"""Checks of things of which nothing is known but that they are values."""

MOST_LETTERS = 6


def is_tuple(thing, many):
    """Whether a thing is a tuple with so many members."""
    return isinstance(thing, tuple) and len(thing) == many


def is_index(thing, many):
    """Whether a thing is one of the integers 0, 1, .. many - 1."""
    # Python counts True and False among the integers, the program does not.
    return isinstance(thing, int) and not isinstance(thing, bool) and 0 <= thing < many


def is_small(sign):
    """Whether a character is a small letter a to z."""
    return "a" <= sign <= "z"


def is_letters(thing):
    """Whether a thing is letters: 1 to 6 different small letters in ascending order."""
    if not isinstance(thing, str) or not 1 <= len(thing) <= MOST_LETTERS:
        return False
    rising = all([x < y for x, y in zip(thing, thing[1:])])
    return rising and all([is_small(x) for x in thing])


def is_text(thing):
    """Whether a thing is a string of small letters, also the empty one."""
    return isinstance(thing, str) and all([is_small(x) for x in thing])


def are_goals(thing, many):
    """Whether a thing is a tuple of one state or more: for each of so many letters the state behind it."""
    if not isinstance(thing, tuple) or len(thing) == 0:
        return False
    return all([are_indices(steps, many, len(thing)) for steps in thing])


def are_indices(thing, many, bound):
    """Whether a thing is a tuple of so many integers from 0 to bound - 1."""
    return is_tuple(thing, many) and all([is_index(goal, bound) for goal in thing])
