"""Texts at which the value of a box machine lies in a set.

The set machine is taken for a plan without boxes, which has a value, the empty one, at the texts of its set.
"""

from threescribes.acts import Acts
from threescribes.boxes import domain_of
from threescribes.lean import lean
from threescribes.plans import plan_of_boxes
from threescribes.runs import RunSketch
from threescribes.sets import least, less, met_from, shortest, turned
from threescribes.smaller import smaller

FEW = 64


def led_into(boxes, machine):
    """The least set machine of the texts at which a box machine has a value in the set of a set machine."""
    one = lean(plan_of_boxes(smaller(boxes)))
    other = plan_of_boxes(boxes_of_set(machine))
    from_left = FromLeft(one, other)
    from_right = RunSketch(one, other)
    most = FEW
    # From either side there may be far more to tell apart than the least machine does, seldom from both.
    while True:
        found = met_from(one.letters, from_left.first(), from_left.step, from_left.has_end, most)
        if found is not None:
            return least(found)
        found = met_from(one.letters, from_right.empty(), from_right.behind,
                         lambda key: from_right.first(key) is not None, most)
        if found is not None:
            return turned(found)
        most = 4 * most


def first_outside(boxes, machine):
    """The first text at which a box machine has a value that is not in the set of a set machine, or None."""
    return shortest(less(domain_of(boxes), led_into(boxes, machine)))


def boxes_of_set(machine):
    """The box machine that has the empty value at the texts of a set, and no value elsewhere."""
    letters, goals, ends = machine[1:]
    rows = tuple([tuple([((goal, ()),) for goal in by_letter]) for by_letter in goals])
    return ("boxes", letters, ((0,) * len(letters),), 0, rows, tuple([() if end else None for end in ends]))


class FromLeft:
    """Reads a text from the left, with the values of a plan led into another one.

    A key has, for each class of the rest, None or the state of the plan and the acts (acts.py) of what its
    boxes hold, or None for what has a letter that the other plan does not have.
    """

    def __init__(self, one, other):
        self.one = one
        self.acts = Acts(other)

    def first(self):
        """The key of the empty text."""
        return tuple([None if first is None else (first[0],) + tuple([self.acts.act_of(string) for string in first[1]])
                      for first in self.one.firsts])

    def step(self, key, k):
        """The key behind the k-th letter."""
        found = []
        for number, classes in enumerate(self.one.ahead):
            before = key[classes[k]]
            step = None if before is None else self.one.step(before[0], k, number)
            if step is not None:
                step = (step[0],) + tuple([self.act_of_row(row, before) for row in step[1]])
            found.append(step)
        return tuple(found)

    def act_of_row(self, row, before):
        """The act of a row of boxes and strings, or None."""
        acts = [self.acts.act_of(item) if isinstance(item, str) else before[item + 1] for item in row]
        return None if None in acts else self.acts.row_of([self.acts.nothing] + acts)

    def has_end(self, key):
        """Whether the value of the text that ends here is led into the set."""
        if key[0] is None or self.one.ends[key[0][0]] is None:
            return False
        act = self.act_of_row(self.one.ends[key[0][0]], key[0])
        return act is not None and not self.acts.is_lost(self.acts.row_of([self.acts.head, act, self.acts.tail]))
