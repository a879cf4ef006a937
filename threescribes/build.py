"""Box machines of terms."""

from threescribes.chains import ChainSketch
from threescribes.lean import lean
from threescribes.pieces import CutSketch, PiecesSketch
from threescribes.plans import machine_of_plan, plan_of
from threescribes.rows import all_shifted, joined, shifted
from threescribes.sets import turned
from threescribes.settexts import set_of
from threescribes.weave import woven


def boxes_of(tree, letters):
    """A box machine with the values of a term at the texts over the letters."""
    return machine_of_plan(plan_of_term(tree, letters))


def plan_of_term(tree, letters):
    """The plan of a term."""
    if tree[0] == "then":
        return woven(plan_of_term(tree[1], letters), plan_of_term(tree[2], letters))
    return lean(plan_of(sketch_of(tree, letters)))


def sketch_of(tree, letters):
    """The sketch for a term that is no then, with the plans of its parts."""
    name = tree[0]
    if name == "word":
        return WordSketch(tree[1], set_of(tree[2], letters))
    if name == "copy":
        return CopySketch(set_of(tree[1], letters))
    if name == "each" or name == "back":
        return PiecesSketch(plan_of_term(tree[1], letters), name == "back")
    if name == "chain":
        return ChainSketch(set_of(tree[1], letters), plan_of_term(tree[2], letters))
    one = plan_of_term(tree[-2], letters)
    other = plan_of_term(tree[-1], letters)
    if name == "pick":
        return PickSketch(set_of(tree[1], letters), one, other)
    return BothSketch(one, other) if name == "both" else CutSketch(one, other)


class WordSketch:
    """One value for the texts of a set. A class is a state of the set's machine that reads from behind."""

    def __init__(self, word, machine):
        self.letters = machine[1]
        self.word = word
        self.goals, self.ends = turned(machine)[2:]

    def empty(self):
        """The class of the empty text."""
        return 0

    def behind(self, number, k):
        """The class of a letter and a rest."""
        return self.goals[number][k]

    def first(self, number):
        """The beginning of a text."""
        return (0, ()) if self.ends[number] else None

    def step(self, state, k, number):
        """The step at a letter."""
        return (0, ())

    def end(self, state):
        """The end of a text."""
        return joined([self.word])


class CopySketch:
    """The texts of a set themselves. A class is a state of the set's machine that reads from behind."""

    def __init__(self, machine):
        self.letters = machine[1]
        self.goals, self.ends = turned(machine)[2:]

    def empty(self):
        """The class of the empty text."""
        return 0

    def behind(self, number, k):
        """The class of a letter and a rest."""
        return self.goals[number][k]

    def first(self, number):
        """The beginning of a text."""
        return (0, ("",)) if self.ends[number] else None

    def step(self, state, k, number):
        """The step at a letter."""
        return (0, ((0, self.letters[k]),))

    def end(self, state):
        """The end of a text."""
        return (0,)


class PickSketch:
    """One plan for the texts of a set, another one for all others.

    A class has the state of the set's machine that reads from behind, and the classes of both plans; a state
    has 0 or 1 for the first or the second plan, and its state.
    """

    def __init__(self, machine, one, other):
        self.letters = machine[1]
        self.goals, self.ends = turned(machine)[2:]
        self.plans = (one, other)

    def empty(self):
        """The class of the empty text."""
        return (0, 0, 0)

    def behind(self, key, k):
        """The class of a letter and a rest."""
        one, other = self.plans
        return (self.goals[key[0]][k], one.ahead[key[1]][k], other.ahead[key[2]][k])

    def first(self, key):
        """The beginning of a text."""
        which = 0 if self.ends[key[0]] else 1
        first = self.plans[which].firsts[key[which + 1]]
        return None if first is None else ((which, first[0]), first[1])

    def step(self, state, k, key):
        """The step at a letter."""
        which, number = state
        goal, news = self.plans[which].step(number, k, key[which + 1])
        return ((which, goal), news)

    def end(self, state):
        """The end of a text."""
        return self.plans[state[0]].ends[state[1]]


class BothSketch:
    """Two plans side by side. A class or a state has those of both plans."""

    def __init__(self, one, other):
        self.letters = one.letters
        self.one = one
        self.other = other

    def empty(self):
        """The class of the empty text."""
        return (0, 0)

    def behind(self, key, k):
        """The class of a letter and a rest."""
        return (self.one.ahead[key[0]][k], self.other.ahead[key[1]][k])

    def first(self, key):
        """The beginning of a text."""
        one = self.one.firsts[key[0]]
        other = self.other.firsts[key[1]]
        if one is None or other is None:
            return None
        return ((one[0], other[0]), one[1] + other[1])

    def step(self, state, k, key):
        """The step at a letter."""
        goal, news = self.one.step(state[0], k, key[0])
        other_goal, other_news = self.other.step(state[1], k, key[1])
        return ((goal, other_goal), news + all_shifted(other_news, self.one.sizes[state[0]]))

    def end(self, state):
        """The end of a text."""
        row = self.one.ends[state[0]]
        return joined(row + shifted(self.other.ends[state[1]], self.one.sizes[state[0]]))
