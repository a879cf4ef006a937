"""The sketch of a plan that goes over each two neighbours of the pieces of a text."""

from threescribes.pieces import MANY, NONE, is_one, sum_of, without_empty
from threescribes.plans import begin_with
from threescribes.rows import all_shifted, filled

NO_STATE = -1
NO_CLASS = -1


class ChainSketch:
    """A plan for each two neighbours of the pieces of a text, if it can be cut into pieces of a set in one way.

    A class has whether there is a value, and for each state of the set the ways to end the piece and to cut what
    follows: whether the piece ends ahead of the rest, the class of what is left of it, and the class of
    that and the next piece together, or NO_CLASS. Where the plan has no value at two neighbours behind, the
    ways are MANY, as they come to the same. A state has the state of the plan that has begun with the piece
    before, that of the one that has begun with this piece, or NO_STATE, and that of the set; it is ()
    behind the last piece.
    """

    def __init__(self, machine, plan):
        self.letters = machine[1]
        self.plan = plan
        self.goals, self.ends = without_empty(machine)[2:]

    def later(self, ways, k):
        """The ways to end the piece behind a letter, by those behind it."""
        if not is_one(ways):
            return ways
        pair = NO_CLASS if ways[2] == NO_CLASS else self.plan.ahead[ways[2]][k]
        return (False, self.plan.ahead[ways[1]][k], pair)

    def here(self, ways):
        """The ways to end a piece ahead of a rest that is not empty, by the ways to cut that rest."""
        if not is_one(ways):
            return ways
        if ways[2] != NO_CLASS and self.plan.firsts[ways[2]] is None:
            return MANY
        return (True, 0, ways[1])

    def empty(self):
        """The class of the empty text."""
        return (True, tuple([(True, 0, NO_CLASS) if end else NONE for end in self.ends]))

    def behind(self, key, k):
        """The class of a letter and a rest."""
        found = [self.later(key[1][goals[k]], k) for goals in self.goals]
        # A whole text begins in state 0, and no text of the set is empty.
        here = self.here(found[0])
        return (is_one(here), tuple([sum_of(here if end else NONE, ways) for ways, end in zip(found, self.ends)]))

    def first(self, key):
        """The beginning of a text."""
        if not key[0]:
            return None
        if key[1][0] == NONE:
            return ((), ("",))
        state, contents = self.begin(key[1][0])
        return ((NO_STATE, state, 0), ("",) + contents)

    def begin(self, ways):
        """The state, and what its boxes hold, of the plan that begins with a piece; NO_STATE if it is the last one."""
        return (NO_STATE, ()) if ways[2] == NO_CLASS else self.plan.firsts[ways[2]]

    def step(self, state, k, key):
        """The step at a letter."""
        read = self.goals[state[2]][k]
        here, number, pair = key[1][read]
        before, news = self.step_of_plan(state[0], k, number, 1)
        size = 0 if state[0] == NO_STATE else self.plan.sizes[state[0]]
        now, more = self.step_of_plan(state[1], k, pair, size + 1)
        if not here:
            return ((before, now, read), ((0,),) + news + more)
        put = (0,) if before == NO_STATE else (0,) + filled(self.plan.ends[before], news)
        if key[1][0] == NONE:
            return ((), (put,))
        begun, rows = begin_with(self.begin(key[1][0]))
        return ((now, begun, 0), (put,) + more + rows)

    def step_of_plan(self, state, k, number, many):
        """The step of the plan in one of its states, with so many boxes ahead of its own."""
        if state == NO_STATE:
            return NO_STATE, ()
        goal, news = self.plan.step(state, k, number)
        return goal, all_shifted(news, many)

    def end(self, state):
        """The end of a text."""
        return (0,)
