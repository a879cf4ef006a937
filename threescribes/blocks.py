"""Blocks of states that no text tells apart."""


def sources_of(goals):
    """For each letter and each state, the list of the states from which the letter leads there."""
    sources = [[[] for state in goals] for letter in goals[0]]
    for source, steps in enumerate(goals):
        for k, goal in enumerate(steps):
            sources[k][goal].append(source)
    return sources


def blocks_of(goals, kinds):
    """For each state the number of its block: the same for states that no text leads to states of unlike kinds.

    Blocks are split by the states from which a letter leads into another block. Each block waits
    until it has split the others. When a block is split, it is enough that the smaller part waits:
    what the whole has split, and the smaller part splits, the larger part does not split further.
    """
    numbers = {}
    block = [numbers.setdefault(kind, len(numbers)) for kind in kinds]
    members = [{} for _ in numbers]
    for state, number in enumerate(block):
        members[number][state] = True
    sources = sources_of(goals)
    waiting = list(range(len(members)))
    while waiting:
        inside = list(members[waiting.pop()])
        for into in sources:
            for number, found in by_block(inside, into, block).items():
                if len(found) < len(members[number]):
                    waiting.append(len(members))
                    split_off(members, block, number, found)
    return block


def by_block(inside, into, block):
    """The states from which a letter leads to states inside, in a dict of lists by their blocks."""
    met = {}
    for goal in inside:
        for state in into[goal]:
            met.setdefault(block[state], []).append(state)
    return met


def split_off(members, block, number, found):
    """Makes a new block of some states of a block, or of its other states if these are fewer."""
    smaller = found
    if 2 * len(found) > len(members[number]):
        stay = {state: True for state in found}
        smaller = [state for state in members[number] if state not in stay]
    for state in smaller:
        del members[number][state]
        block[state] = len(members)
    members.append({state: True for state in smaller})
