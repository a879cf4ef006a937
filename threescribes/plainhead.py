"""Heads that ask nothing: the same function with one left class and one right class.

First a head is made that knows the left class by itself, out of this one that knows the right class, too.
"""

from threescribes.blocks import blocks_of
from threescribes.reach import met_in_order
from threescribes.sides import AT, FAR, Side


def plain_head(head):
    """A plain head with the same function as a head."""
    letters, behind, ahead, moves = with_fewer_classes(head)[1:]
    many = len(letters)
    by_right = Side(behind, 1, many, moves).all_moves((AT, 0, 0), len(ahead))
    alone_on_left = [[[[move] for move in by_class] for by_class in numbers] for numbers in by_right]
    found = Side(ahead, -1, many + 1, alone_on_left).all_moves((FAR,), 1)
    plain = [[by_class[0] for by_class in numbers] for numbers in found]
    return ("head", letters, ((0,) * many,), ((0,) * many,), with_merged_states(plain))


def with_fewer_classes(head):
    """The head with one left class and one right class for all that are equivalent."""
    letters, behind, ahead, moves = head[1:]
    marks = (len(letters), len(letters) + 1)
    # At the left mark the left class is 0, at the right mark the right class is.
    new_behind, lefts = fewer(behind, lambda left: tuple(
        [by_left[left] for numbers in moves for number, by_left in enumerate(numbers) if number != marks[0]]))
    new_ahead, rights = fewer(ahead, lambda right: tuple(
        [by_left[left][right] for numbers in moves for number, by_left in enumerate(numbers) for left in lefts
         if number != marks[1]]))
    new_moves = [[[[by_left[left][right] for right in rights] for left in lefts] for by_left in numbers]
                 for numbers in moves]
    return ("head", letters, new_behind, new_ahead, new_moves)


def fewer(goals, kind_of):
    """The goals of the classes that are met, with one for all that are equivalent, and which class each of them was.

    kind_of is a function that tells of what kind a class is.
    """
    met = met_in_order(lambda number: goals[number])
    at = {number: place for place, number in enumerate(met)}
    block = blocks_of([[at[goal] for goal in goals[number]] for number in met], [kind_of(number) for number in met])
    names = {}
    shown = []
    for place, number in enumerate(met):
        if block[place] not in names:
            names[block[place]] = len(shown)
            shown.append(number)
    return [[names[block[at[goal]]] for goal in goals[number]] for number in shown], shown


def with_merged_states(moves):
    """The moves of a plain head, as lists by their numbers, with one state for all that are equivalent."""
    # A move that is None leads to one more state, which leads to itself.
    lost = len(moves)
    goals = [[lost if move is None else move[0] for move in row] for row in moves] + [[lost] * len(moves[0])]
    kinds = [tuple([None if move is None else move[1:] for move in row]) for row in moves] + [None]
    block = blocks_of(goals, kinds)
    names = {}
    shown = []
    for state in range(lost):
        if block[state] not in names:
            names[block[state]] = len(shown)
            shown.append(state)
    return tuple([tuple([((None if move is None else (names[block[move[0]]],) + move[1:],),) for move in moves[state]])
                  for state in shown])
