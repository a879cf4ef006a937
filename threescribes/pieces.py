"""Sketches of plans that cut a text: in two, or into pieces.

The class of a rest tells, for each state of a set machine that reads the part of the text that is not yet whole,
how the rest can be cut: not at all (NONE), in more than one way (MANY), or in one way, with what is to
be known of it.
"""

from threescribes.plans import begin_with, value_at_end
from threescribes.rows import filled
from threescribes.sets import empty_text, less, turned

NONE = 0
MANY = 1


def domain_of_plan(plan):
    """The set machine of the texts at which a plan has a value."""
    ends = tuple([first is not None for first in plan.firsts])
    return turned(("set", plan.letters, tuple(plan.ahead), ends))


def without_empty(machine):
    """The set machine of the texts of a set that are not empty."""
    return less(machine, empty_text(machine[1]))


def is_one(ways):
    """Whether there is just one way."""
    return ways != NONE and ways != MANY


def sum_of(one, other):
    """The ways of both kinds together."""
    if one == NONE:
        return other
    return one if other == NONE else MANY


class CutSketch:
    """A plan for the beginning of a text and another one for what is behind it, if it can be cut in one way.

    A class has the class of the second plan, and for each state of the domain of the first one the ways to cut:
    a way is whether it cuts ahead of the rest, and the class of the first plan of what is ahead of
    the cut. A state is (0, a state of the first plan, one of the domain) or (1, a state of the second one);
    then the last box holds the value of the first one.
    """

    def __init__(self, one, other):
        self.letters = one.letters
        self.one = one
        self.other = other
        self.goals, self.ends = domain_of_plan(one)[2:]

    def here(self, state, number):
        """The ways to cut ahead of a rest of a class of the second plan."""
        return (True, 0) if self.ends[state] and self.other.firsts[number] is not None else NONE

    def later(self, ways, k):
        """The ways to cut behind a letter, by those behind it."""
        return (False, self.one.ahead[ways[1]][k]) if is_one(ways) else ways

    def empty(self):
        """The class of the empty text."""
        return (0, tuple([self.here(state, 0) for state in range(len(self.goals))]))

    def behind(self, key, k):
        """The class of a letter and a rest."""
        number = self.other.ahead[key[0]][k]
        return (number, tuple([sum_of(self.here(state, number), self.later(key[1][goals[k]], k))
                               for state, goals in enumerate(self.goals)]))

    def first(self, key):
        """The beginning of a text."""
        ways = key[1][0]
        if not is_one(ways):
            return None
        state, contents = self.one.firsts[ways[1]]
        if not ways[0]:
            return ((0, state, 0), contents)
        other, others = self.other.firsts[key[0]]
        return ((1, other), others + (value_at_end(self.one, (state, contents)),))

    def step(self, state, k, key):
        """The step at a letter."""
        if state[0] == 1:
            goal, news = self.other.step(state[1], k, key[0])
            return ((1, goal), news + ((self.other.sizes[state[1]],),))
        read = self.goals[state[2]][k]
        here, number = key[1][read]
        goal, news = self.one.step(state[1], k, number)
        if not here:
            return ((0, goal, read), news)
        other, others = begin_with(self.other.firsts[key[0]])
        return ((1, other), others + (filled(self.one.ends[goal], news),))

    def end(self, state):
        """The end of a text."""
        return (self.other.sizes[state[1]],) + self.other.ends[state[1]]


class PiecesSketch:
    """A plan for each piece of a text, if it can be cut into pieces in one way; from behind, if turned.

    A class has whether there is one way to cut a rest into pieces, and for each state of the domain, without
    the empty text, the ways to end the piece and to cut what follows: whether the piece ends ahead of the
    rest, and the class of what is left of it. A state is a state of the plan and one of the domain, or
    () behind the last piece. The last box holds the values of the pieces that have been read.
    """

    def __init__(self, plan, is_back):
        self.letters = plan.letters
        self.plan = plan
        self.is_back = is_back
        self.goals, self.ends = without_empty(domain_of_plan(plan))[2:]

    def later(self, ways, k):
        """The ways to end the piece behind a letter, by those behind it."""
        return (False, self.plan.ahead[ways[1]][k]) if is_one(ways) else ways

    def empty(self):
        """The class of the empty text."""
        return (True, tuple([(True, 0) if end else NONE for end in self.ends]))

    def behind(self, key, k):
        """The class of a letter and a rest."""
        found = [self.later(key[1][goals[k]], k) for goals in self.goals]
        # A whole text begins in state 0, and no text of the domain is empty.
        here = (True, 0) if is_one(found[0]) else found[0]
        return (is_one(found[0]), tuple([sum_of(here if end else NONE, ways) for ways, end in zip(found, self.ends)]))

    def begin(self, key):
        """The state, and what the boxes hold, at the beginning of a piece or behind the last one."""
        if key[1][0] == NONE:
            return (), ()
        state, contents = self.plan.firsts[key[1][0][1]]
        return (state, 0), contents

    def first(self, key):
        """The beginning of a text."""
        if not key[0]:
            return None
        state, contents = self.begin(key)
        return (state, contents + ("",))

    def step(self, state, k, key):
        """The step at a letter."""
        read = self.goals[state[1]][k]
        here, number = key[1][read]
        goal, news = self.plan.step(state[0], k, number)
        last = (self.plan.sizes[state[0]],)
        if not here:
            return ((goal, read), news + (last,))
        value = filled(self.plan.ends[goal], news)
        begun, rows = begin_with(self.begin(key))
        return (begun, rows + (value + last if self.is_back else last + value,))

    def end(self, state):
        """The end of a text."""
        return (0,)
