"""Plans: box machines that begin as the class of the whole text tells, and never stop where there is a value.

Each state of a plan has boxes of its own, numbered from 0, so that parts of plans are easily put together.
"""

from threescribes.boxes import put_together
from threescribes.masks import bits_of
from threescribes.pairs import live_pairs, met_pairs
from threescribes.reach import met_by_letters
from threescribes.rows import filled, told
from threescribes.smaller import smaller

MANY_ENTRIES = 100000


class Plan:
    """A function of texts, told class by class and state by state.

    ahead[c][k] is a class, as in a box machine. firsts[c] is None for the class of a text without a value,
    and otherwise the state in which a text of this class begins, with what its boxes hold then.
    moves[q] is a list of moves or None; a move has the next state and the number of its news in news. The frame
    frames[frame_of[q]] tells, by a letter and the class of the rest behind it, which of the moves it is, so
    that a move that is done ahead of many classes stands there once. ends[q] is None or a row, sizes[q]
    the number of boxes, and met[q] has the bit 1 << c for each class c of the rest with which q is met.
    parts is None, or a list of tuples of rows; then each of news is a tuple of the numbers of parts which give
    the news one behind the other. Only plans that are still to be made lean have it.
    """

    def __init__(self, letters, ahead, firsts, news, parts=None):
        self.letters = letters
        self.ahead = ahead
        self.firsts = firsts
        self.news = news
        self.parts = parts
        self.frames = []
        self.frame_of = []
        self.moves = []
        self.ends = []
        self.sizes = []
        self.met = []

    def add_state(self, frame, moves, end, size, met):
        """One more state."""
        self.frame_of.append(frame)
        self.moves.append(moves)
        self.ends.append(end)
        self.sizes.append(size)
        self.met.append(met)

    def move(self, state, k, number):
        """The move at the k-th letter with a class behind it, or None."""
        slot = self.frames[self.frame_of[state]].get((k, number))
        return None if slot is None else self.moves[state][slot]

    def step(self, state, k, number):
        """The next state and the news at the k-th letter with a class behind it, or None."""
        move = self.move(state, k, number)
        return None if move is None else (move[0], self.news[move[1]])


def plan_of(sketch):
    """The plan with all classes and states that are met; a sketch tells them by keys of any kind.

    sketch.empty() is the key of the class of the empty text, sketch.behind(key, k) that of the k-th
    letter followed by a rest of a class. sketch.first(key) is None or a state's key with what its boxes
    hold, sketch.step(state, k, key) the next state's key with its news, for a rest of a class, and
    sketch.end(state) a row. These two are only asked where some text with a value leads.
    """
    keys, ahead = met_by_letters(sketch.empty(), lambda key, k: sketch.behind(key, k), len(sketch.letters))
    found = Found()
    firsts = []
    for number, key in enumerate(keys):
        first = sketch.first(key)
        if first is not None:
            first = (found.met_with(first[0], len(first[1]), number), first[1])
        firsts.append(first)
    sources = sources_of_classes(ahead)
    while found.waiting:
        state, number = found.waiting.pop()
        for k, behind in sources[number]:
            goal, news = sketch.step(found.names[state], k, keys[behind])
            goal = found.met_with(goal, len(news), behind)
            found.steps[state][(k, behind)] = (goal, found.news.setdefault(news, len(found.news)))
    ends = [sketch.end(key) if found.met[state] & 1 else None for state, key in enumerate(found.names)]
    return with_frames(Plan(sketch.letters, ahead, firsts, list(found.news)), found, ends)


def sources_of_classes(ahead):
    """For each class the letters and classes that it consists of."""
    sources = [[] for _ in ahead]
    for behind, classes in enumerate(ahead):
        for k, number in enumerate(classes):
            sources[number].append((k, behind))
    return sources


def with_frames(plan, found, ends):
    """The plan with all states that have been found."""
    frames = {}
    for state, end in enumerate(ends):
        places = tuple(sorted(found.steps[state]))
        moves = [found.steps[state][place] for place in places]
        plan.add_state(frames.setdefault(places, len(frames)), moves, end, found.sizes[state], found.met[state])
    plan.frames = [{place: slot for slot, place in enumerate(places)} for places in frames]
    return plan


class Found:
    """The states that have been met, with the classes of the rest, and the steps and the news."""

    def __init__(self):
        self.numbers = {}
        self.names = []
        self.sizes = []
        self.met = []
        self.steps = []
        self.news = {}
        self.waiting = []

    def number_of(self, key, size):
        """The number of a state, which has so many boxes."""
        if key not in self.numbers:
            self.numbers[key] = len(self.names)
            self.names.append(key)
            self.sizes.append(size)
            self.met.append(0)
            self.steps.append({})
        return self.numbers[key]

    def met_with(self, key, size, number):
        """The number of a state, which now has a rest of some class."""
        state = self.number_of(key, size)
        if not self.met[state] >> number & 1:
            self.met[state] |= 1 << number
            self.waiting.append((state, number))
        return state


def plan_of_boxes(boxes):
    """The plan of a box machine; it may begin where there is no value, and stop later."""
    letters, ahead, many, rows, ends = boxes[1:]
    met = met_pairs(boxes)
    live = live_pairs(boxes)
    found = Found()
    for state in range(len(rows)):
        found.number_of(state, many)
    for state, number in met:
        if (state, number) in live:
            found.met_with(state, many, number)
    for state, by_letter in enumerate(rows):
        for k, entries in enumerate(by_letter):
            for number, entry in enumerate(entries):
                if (state, ahead[number][k]) in met and entry is not None and (entry[0], number) in live:
                    news = found.news.setdefault(entry[1], len(found.news))
                    found.steps[state][(k, number)] = (entry[0], news)
    firsts = [(0, ("",) * many) if (0, number) in live else None for number in range(len(ahead))]
    return with_frames(Plan(letters, ahead, firsts, list(found.news)), found, ends)


def machine_of_plan(plan):
    """The box machine of a plan that is lean, made smaller still."""
    boxes = boxes_of_plan(plan)
    # In a large machine there is little left to merge, and the search for it would take longer than all the rest.
    if len(boxes[5]) * len(boxes[1]) * len(boxes[2]) > MANY_ENTRIES:
        return boxes
    return smaller(boxes)


def boxes_of_plan(plan):
    """The box machine of a plan.

    A state of the machine stands for another state of the plan with each class of the rest. So there are hardly
    more states than the plan has with a single class. State 0 is the beginning.
    """
    many = max(plan.sizes + [0])
    names = names_by_class(plan)
    states = 1 + max([name for numbers in names for name in numbers.values()] + [0])
    all_news = [padded(news, many) for news in plan.news]
    slots = slots_by_place(plan)
    by_letter = []
    for k in range(len(plan.letters)):
        columns = [column_of(plan, k, number, names, slots, all_news, states) for number in range(len(plan.ahead))]
        by_letter.append(list(zip(*columns)))
    ends = [None] * states
    for state, name in names[0].items():
        ends[name] = plan.ends[state]
    if plan.firsts[0] is not None:
        state, contents = plan.firsts[0]
        ends[0] = begun([plan.ends[state]], contents)[0]
    return ("boxes", plan.letters, tuple(plan.ahead), many, tuple(list(zip(*by_letter))), tuple(ends))


def slots_by_place(plan):
    """By a letter and the class behind it, a dict of the frames that have this place, with the number of the move."""
    found = {}
    for at, frame in enumerate(plan.frames):
        for place, slot in frame.items():
            if place not in found:
                found[place] = {}
            found[place][at] = slot
    return found


def column_of(plan, k, number, names, slots, all_news, states):
    """The entries at the k-th letter with a class behind it, for each of so many states of the machine."""
    whole = plan.ahead[number][k]
    slot_of = slots.get((k, number), {})
    goal_names = names[number]
    column = [None] * states
    for state, name in names[whole].items():
        slot = slot_of.get(plan.frame_of[state])
        if slot is not None:
            goal, news = plan.moves[state][slot]
            column[name] = (goal_names[goal], all_news[news])
    first = plan.firsts[whole]
    if first is not None:
        goal, news = plan.step(first[0], k, number)
        column[0] = (goal_names[goal], padded(begun(news, first[1]), len(all_news[0])))
    return column


def names_by_class(plan):
    """For each class of the rest a dict of the states that are met with it, with a number for each.

    The number 0 is that of the beginning, so it is also that of a state in which a text begins with empty boxes.
    """
    states = [[] for _ in plan.ahead]
    for state, met in enumerate(plan.met):
        for number in bits_of(met):
            states[number].append(state)
    names = []
    for first, met in zip(plan.firsts, states):
        begins = None if first is None or any(first[1]) else first[0]
        rest = [state for state in met if state != begins]
        found = {state: at + 1 for at, state in enumerate(rest)}
        if begins is not None:
            found[begins] = 0
        names.append(found)
    return names


def padded(news, many):
    """A news for so many boxes, of which the last ones hold nothing."""
    return tuple(news) + ((),) * (many - len(news))


def begun(news, contents):
    """Some rows, of which what the boxes hold at first is known. A box that is empty is so in any machine at first."""
    kept = [(box,) if string == "" else (string,) for box, string in enumerate(contents)]
    return [filled(row, kept) for row in news]


def value_at_end(plan, first):
    """What a plan gives for the empty text, as a text begins there."""
    return put_together(plan.ends[first[0]], first[1])


def begin_with(first):
    """The state and the news of what begins anew, whatever was before."""
    return first[0], told(first[1])
