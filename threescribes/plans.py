"""Plans: box machines that begin as the class of the whole text tells, and never stop where there is a value.

Each state of a plan has boxes of its own, numbered from 0, so that parts of plans are easily put together.
"""

from threescribes.boxes import put_together
from threescribes.pairs import live_pairs, met_pairs
from threescribes.reach import met_by_letters
from threescribes.rows import filled, told


class Plan:
    """A function of texts, told class by class and state by state.

    ahead[c][k] is a class, as in a box machine. firsts[c] is None for the class of a text without a value,
    and otherwise the state in which a text of this class begins, with what its boxes hold then.
    steps has, by a state, a letter and the class of the rest behind it, the next state and its news.
    Only what some text leads to stands there. ends[q] is None or a row, sizes[q] the number of boxes.
    """

    def __init__(self, letters, ahead, firsts, steps, ends, sizes):
        self.letters = letters
        self.ahead = ahead
        self.firsts = firsts
        self.steps = steps
        self.ends = ends
        self.sizes = sizes


def plan_of(sketch):
    """The plan with all classes and states that are met; a sketch tells them by keys of any kind.

    sketch.empty() is the key of the class of the empty text, sketch.behind(key, k) that of the k-th
    letter followed by a rest of a class. sketch.first(key) is None or a state's key with what its boxes
    hold, sketch.step(state, k, key) the next state's key with its news, for a rest of a class, and
    sketch.end(state) a row. These two are only asked where some text with a value leads.
    """
    keys, ahead = met_by_letters(sketch.empty(), lambda key, k: sketch.behind(key, k), len(sketch.letters))
    found = Found()
    firsts = []
    for number, key in enumerate(keys):
        first = sketch.first(key)
        if first is not None:
            first = (found.met(first[0], len(first[1]), number), first[1])
        firsts.append(first)
    sources = sources_of_classes(ahead)
    steps = {}
    while found.waiting:
        state, number = found.waiting.pop()
        for k, behind in sources[number]:
            goal, news = sketch.step(found.names[state], k, keys[behind])
            steps[(state, k, behind)] = (found.met(goal, len(news), behind), news)
    ends = [sketch.end(key) if (state, 0) in found.pairs else None for state, key in enumerate(found.names)]
    return Plan(sketch.letters, ahead, firsts, steps, ends, found.sizes)


def sources_of_classes(ahead):
    """For each class the letters and classes that it consists of."""
    sources = [[] for _ in ahead]
    for behind, classes in enumerate(ahead):
        for k, number in enumerate(classes):
            sources[number].append((k, behind))
    return sources


class Found:
    """The states that have been met, and the pairs of a state and a class of the rest."""

    def __init__(self):
        self.numbers = {}
        self.names = []
        self.sizes = []
        self.pairs = {}
        self.waiting = []

    def met(self, key, size, number):
        """The number of a state, which has so many boxes and now a rest of some class."""
        if key not in self.numbers:
            self.numbers[key] = len(self.names)
            self.names.append(key)
            self.sizes.append(size)
        pair = (self.numbers[key], number)
        if pair not in self.pairs:
            self.pairs[pair] = True
            self.waiting.append(pair)
        return pair[0]


def plan_of_boxes(boxes):
    """The plan of a box machine; it may begin where there is no value, and stop later."""
    letters, ahead, many, rows, ends = boxes[1:]
    met = met_pairs(boxes)
    live = live_pairs(boxes)
    steps = {}
    for state, by_letter in enumerate(rows):
        for k, entries in enumerate(by_letter):
            for number, entry in enumerate(entries):
                if (state, ahead[number][k]) in met and entry is not None and (entry[0], number) in live:
                    steps[(state, k, number)] = entry
    firsts = [(0, ("",) * many) if (0, number) in live else None for number in range(len(ahead))]
    return Plan(letters, ahead, firsts, steps, ends, [many] * len(rows))


def boxes_of_plan(plan):
    """The box machine of a plan.

    A state of the machine stands for another state of the plan with each class of the rest. So there are hardly
    more states than the plan has with a single class. State 0 is the beginning.
    """
    many = max(plan.sizes + [0])
    names = names_by_class(plan)
    states = 1 + max([name for numbers in names for name in numbers.values()] + [0])
    rows = [[[None] * len(plan.ahead) for _ in plan.letters] for _ in range(states)]
    for (state, k, number), (goal, news) in plan.steps.items():
        name = names[plan.ahead[number][k]][state]
        rows[name][k][number] = (names[number][goal], padded(news, many))
    for number, classes in enumerate(plan.ahead):
        for k, whole in enumerate(classes):
            first = plan.firsts[whole]
            if first is not None:
                goal, news = plan.steps[(first[0], k, number)]
                rows[0][k][number] = (names[number][goal], padded(begun(news, first[1]), many))
    ends = [None] * states
    for state, name in names[0].items():
        ends[name] = plan.ends[state]
    if plan.firsts[0] is not None:
        state, contents = plan.firsts[0]
        ends[0] = begun([plan.ends[state]], contents)[0]
    full = tuple([tuple([tuple(entries) for entries in by_letter]) for by_letter in rows])
    return ("boxes", plan.letters, tuple(plan.ahead), many, full, tuple(ends))


def names_by_class(plan):
    """For each class of the rest a dict of the states that are met with it, with a number for each.

    The number 0 is that of the beginning, so it is also that of a state in which a text begins with empty boxes.
    """
    met = [{} for _ in plan.ahead]
    for state, k, number in sorted(plan.steps):
        met[plan.ahead[number][k]][state] = True
        met[number][plan.steps[(state, k, number)][0]] = True
    names = []
    for first, states in zip(plan.firsts, met):
        begins = None if first is None or any(first[1]) else first[0]
        rest = [state for state in sorted(states) if state != begins]
        found = {state: at + 1 for at, state in enumerate(rest)}
        if begins is not None:
            found[begins] = 0
        names.append(found)
    return names


def padded(news, many):
    """A news for so many boxes, of which the last ones hold nothing."""
    return tuple(news) + ((),) * (many - len(news))


def begun(news, contents):
    """Some rows, of which what the boxes hold at first is known. A box that is empty is so in any machine at first."""
    kept = [(box,) if string == "" else (string,) for box, string in enumerate(contents)]
    return [filled(row, kept) for row in news]


def value_at_end(plan, first):
    """What a plan gives for the empty text, as a text begins there."""
    return put_together(plan.ends[first[0]], first[1])


def begin_with(first):
    """The state and the news of what begins anew, whatever was before."""
    return first[0], told(first[1])
