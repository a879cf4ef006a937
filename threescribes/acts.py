"""Acts: what strings do in a plan that reads them, whatever stands around them.

The act of a string tells, for each class of what stands behind it, the class of all together and, for each
state in which the plan begins to read it, the state behind it, or STOPPED. A head is the act of a string at the
beginning of a value: for each class behind it, the state behind it. A tail is that of a string at the end:
its class, and for each state whether there is a value if the plan begins to read it so.
"""

STOPPED = -1
ACT = "act"
HEAD = "head"
TAIL = "tail"
WHOLE = "whole"


class Acts:
    """The acts of strings in a plan. They are told by numbers, as there are not many of them but they are long."""

    def __init__(self, plan):
        self.plan = plan
        self.numbers = {}
        self.things = []
        self.known_rows = {}
        states = list(range(len(plan.ends)))
        classes = list(range(len(plan.ahead)))
        self.nothing = self.number_of(ACT, tuple([(number, tuple(states)) for number in classes]))
        self.signs = [self.number_of(ACT, tuple([self.part_of_sign(k, number) for number in classes]))
                      for k in range(len(plan.letters))]
        self.head = self.number_of(HEAD, tuple([STOPPED if first is None else first[0] for first in plan.firsts]))
        self.tail = self.number_of(TAIL, (0, tuple([end is not None for end in plan.ends])))

    def number_of(self, kind, told):
        """The number of an act, a head, a tail or a whole."""
        thing = (kind, told)
        if thing not in self.numbers:
            self.numbers[thing] = len(self.things)
            self.things.append(thing)
        return self.numbers[thing]

    def part_of_sign(self, k, number):
        """What the k-th letter does ahead of a class."""
        steps = [self.plan.step(state, k, number) for state in range(len(self.plan.ends))]
        return (self.plan.ahead[number][k], tuple([STOPPED if step is None else step[0] for step in steps]))

    def act_of(self, string):
        """The act of a string, or None if a letter of it is none of the plan's letters."""
        act = self.nothing
        for sign in string:
            k = self.plan.letters.find(sign)
            if k < 0:
                return None
            act = self.row(act, self.signs[k])
        return act

    def row(self, one, other):
        """One of them followed by another one. A head followed by a tail is a whole: whether there is a value."""
        if (one, other) not in self.known_rows:
            self.known_rows[(one, other)] = self.new_row(self.things[one], self.things[other])
        return self.known_rows[(one, other)]

    def row_of(self, numbers):
        """Several of them, one behind the other."""
        found = numbers[0]
        for number in numbers[1:]:
            found = self.row(found, number)
        return found

    def new_row(self, one, other):
        """One thing followed by another one."""
        kind, told = one
        other_kind, behind = other
        if other_kind == TAIL:
            number, ends = behind
            if kind == HEAD:
                return self.number_of(WHOLE, told[number] != STOPPED and ends[told[number]])
            ahead, goals = told[number]
            return self.number_of(TAIL, (ahead, tuple([goal != STOPPED and ends[goal] for goal in goals])))
        if kind == HEAD:
            return self.number_of(HEAD, tuple([moved(told[number], goals) for number, goals in behind]))
        parts = [(told[number][0], tuple([moved(goal, goals) for goal in told[number][1]]))
                 for number, goals in behind]
        return self.number_of(ACT, tuple(parts))

    def is_lost(self, number):
        """Whether there is no value, whatever stands behind a head or ahead of a tail; or whether a whole has none."""
        kind, told = self.things[number]
        if kind == HEAD:
            return all([state == STOPPED for state in told])
        return not told if kind == WHOLE else not any(told[1])

    def class_of_tail(self, tail):
        """The class of a tail."""
        return self.things[tail][1][0]

    def class_ahead(self, act, number):
        """The class of an act with a class behind it."""
        return self.things[act][1][number][0]

    def state_of_head(self, head, number):
        """The state behind a head with a class behind it."""
        return self.things[head][1][number]

    def state_behind(self, act, number, state):
        """The state behind an act with a class behind it, if it begins in a state."""
        return self.things[act][1][number][1][state]


def moved(state, goals):
    """The state to which a state leads."""
    return STOPPED if state == STOPPED else goals[state]
