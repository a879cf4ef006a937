"""Set machines: sets of texts, told by machines that read a text letter by letter.

A set machine is a tuple ("set", letters, goals, ends). Each function that returns one returns the
least one of its set, with its states numbered in the order in which they are first met.
"""

from threescribes.blocks import blocks_of, sources_of
from threescribes.checks import are_goals, is_letters, is_tuple
from threescribes.reach import met_by_letters


def is_set(thing):
    """Whether a thing is a set machine."""
    if not is_tuple(thing, 4) or thing[0] != "set" or not is_letters(thing[1]):
        return False
    letters, goals, ends = thing[1:]
    if not are_goals(goals, len(letters)) or not is_tuple(ends, len(goals)):
        return False
    return all([isinstance(end, bool) for end in ends])


def least(machine):
    """The least machine with the same set."""
    letters, goals, ends = machine[1:]
    block = blocks_of(goals, ends)
    shown = {}
    for state, number in enumerate(block):
        shown[number] = state

    def step(number, k):
        return block[goals[shown[number]][k]]

    return met_from(letters, block[0], step, lambda number: ends[shown[number]])


def met_from(letters, start, step, has_end, most=None):
    """The machine whose states are the keys that are met from a start, in this order; None if these are too many.

    step(key, k) is the key behind the k-th letter, has_end(key) tells whether a text may end there,
    and most is the number of keys that are not yet too many, or None.
    """
    found = met_by_letters(start, step, len(letters), most)
    if found is None:
        return None
    keys, goals = found
    return ("set", letters, tuple(goals), tuple([has_end(key) for key in keys]))


def contains(machine, text):
    """Whether a string is a text of the set; False if it is no text over the letters."""
    letters, goals, ends = machine[1:]
    state = 0
    for sign in text:
        k = letters.find(sign)
        if k < 0:
            return False
        state = goals[state][k]
    return ends[state]


def shortest(machine):
    """The first text of the set, the shortest one and among these the least; or None."""
    letters, goals, ends = machine[1:]
    # States are met in the order of the first texts that lead to them.
    texts = {0: ""}
    states = [0]
    at = 0
    while at < len(states):
        state = states[at]
        at += 1
        if ends[state]:
            return texts[state]
        for letter, goal in zip(letters, goals[state]):
            if goal not in texts:
                texts[goal] = texts[state] + letter
                states.append(goal)
    return None


def all_texts(letters):
    """The set of all texts."""
    return ("set", letters, ((0,) * len(letters),), (True,))


def no_texts(letters):
    """The set of no text."""
    return ("set", letters, ((0,) * len(letters),), (False,))


def empty_text(letters):
    """The set of the empty text alone."""
    stop = (1,) * len(letters)
    return ("set", letters, (stop, stop), (True, False))


def one_letter(letters, chosen):
    """The set of the texts that consist of one letter, which is one of the chosen ones."""
    begin = tuple([1 if letter in chosen else 2 for letter in letters])
    stop = (2,) * len(letters)
    return least(("set", letters, (begin, stop, stop), (False, True, False)))


def side_by_side(one, other, chosen):
    """The set of the texts for which chosen is True of whether each of both sets has the text."""
    letters, goals, ends = one[1:]
    other_goals, other_ends = other[2:]

    def step(pair, k):
        return (goals[pair[0]][k], other_goals[pair[1]][k])

    def has_end(pair):
        return chosen(ends[pair[0]], other_ends[pair[1]])

    return least(met_from(letters, (0, 0), step, has_end))


def join(one, other):
    """The texts that are in one of both sets, or in both."""
    return side_by_side(one, other, lambda here, there: here or there)


def meet(one, other):
    """The texts that are in both sets."""
    return side_by_side(one, other, lambda here, there: here and there)


def less(one, other):
    """The texts that are in the first set and not in the second one."""
    return side_by_side(one, other, lambda here, there: here and not there)


def staying(goals, ends, end):
    """The state that no letter leaves and that has this end, or None; a least machine has one at most."""
    for state, steps in enumerate(goals):
        if ends[state] == end and all([goal == state for goal in steps]):
            return state
    return None


def key_of(states, lost, won):
    """The key of states in which a machine may be: in order, each once, and only those that matter.

    From the state lost no text is in the set, from the state won all texts are. Without this, states
    that come to the same would make very many keys.
    """
    if won in states:
        return (won,)
    return tuple(sorted({state for state in states if state != lost}))


def row(one, other):
    """All texts u followed by v with u in the first and v in the second set."""
    letters, goals, ends = least(one)[1:]
    other_goals, other_ends = least(other)[2:]
    lost = staying(other_goals, other_ends, False)
    won = staying(other_goals, other_ends, True)

    # A key has the state of the first machine, and those of the second one for each place where u may end.
    def met(state, states):
        begun = [0] if ends[state] else []
        return (state, key_of(states + begun, lost, won))

    def step(key, k):
        return met(goals[key[0]][k], [other_goals[state][k] for state in key[1]])

    def has_end(key):
        return any([other_ends[state] for state in key[1]])

    return least(met_from(letters, met(0, []), step, has_end))


def plus(machine):
    """All texts that are a row of one text of the set or more, one behind the other."""
    letters, goals, ends = least(machine)[1:]
    lost = staying(goals, ends, False)
    won = staying(goals, ends, True)

    def has_end(states):
        return any([ends[state] for state in states])

    def met(states):
        begun = [0] if has_end(states) else []
        return key_of(states + begun, lost, won)

    def step(key, k):
        return met([goals[state][k] for state in key])

    return least(met_from(letters, met([0]), step, has_end))


def star(machine):
    """All texts that are a row of any number of texts of the set, also of none."""
    return join(plus(machine), empty_text(machine[1]))


def turned(machine):
    """All texts of the set, read from the last letter to the first one."""
    letters, goals, ends = least(machine)[1:]
    sources = sources_of(goals)

    # A key has the states from which the letters read so far, the last one first, lead to an end.
    def step(key, k):
        return tuple(sorted([source for state in key for source in sources[k][state]]))

    start = tuple([state for state, end in enumerate(ends) if end])
    return least(met_from(letters, start, step, lambda key: 0 in key))
