"""Plans made lean: without boxes that do not matter, and with one state or class for all that are equivalent."""

from threescribes.blocks import blocks_of
from threescribes.plans import Plan
from threescribes.reach import spread
from threescribes.rows import boxes_in, joined


def lean(plan):
    """A plan with the same function, with fewer boxes, states and classes where that is easily seen."""
    # Merging classes makes no states equivalent: where classes are, the steps of all states are equal.
    return with_merged_classes_of(with_merged_states_of(with_fewer_boxes(plan)))


def with_fewer_boxes(plan):
    """The plan without the boxes of states that come into no value, and without those that are always empty."""
    # There are far fewer of these than there are steps, as many classes have the same.
    moves = {(state, goal, news): True for (state, _, _), (goal, news) in plan.steps.items()}
    matter = boxes_that_matter(plan, moves)
    full = boxes_that_may_be_full(plan, moves)
    kept = [[box for box in range(size) if (state, box) in matter and (state, box) in full]
            for state, size in enumerate(plan.sizes)]
    names = [{box: at for at, box in enumerate(boxes)} for boxes in kept]

    def renamed(row, state):
        return joined([item if isinstance(item, str) else names[state].get(item, "") for item in row])

    entries = {}
    for state, goal, news in moves:
        entries[(state, goal, news)] = (goal, tuple([renamed(news[box], state) for box in kept[goal]]))
    steps = {place: entries[(place[0], entry[0], entry[1])] for place, entry in plan.steps.items()}
    firsts = [None if first is None else (first[0], tuple([first[1][box] for box in kept[first[0]]]))
              for first in plan.firsts]
    ends = [None if end is None else renamed(end, state) for state, end in enumerate(plan.ends)]
    return Plan(plan.letters, plan.ahead, firsts, steps, ends, [len(boxes) for boxes in kept])


def boxes_that_matter(plan, moves):
    """The pairs of a state and a box of it that comes into a value, as the keys of a dict."""
    sources = {}
    for state, goal, news in moves:
        for box, row in enumerate(news):
            sources.setdefault((goal, box), []).extend([(state, source) for source in boxes_in(row)])
    begun = [(state, box) for state, end in enumerate(plan.ends) if end is not None for box in boxes_in(end)]
    return spread(begun, sources)


def boxes_that_may_be_full(plan, moves):
    """The pairs of a state and a box of it that may hold something, as the keys of a dict."""
    goals = {}
    begun = [(first[0], box) for first in plan.firsts if first is not None
             for box, string in enumerate(first[1]) if string != ""]
    for state, goal, news in moves:
        for box, row in enumerate(news):
            if any([isinstance(item, str) for item in row]):
                begun.append((goal, box))
            for source in boxes_in(row):
                goals.setdefault((state, source), []).append((goal, box))
    return spread(begun, goals)


def with_merged_states_of(plan):
    """The plan with one state for all that are equivalent."""
    going = [[] for _ in plan.ends]
    for place in sorted(plan.steps):
        going[place[0]].append((place[1:], plan.steps[place]))
    kinds = [(plan.sizes[state], end, tuple([(place, entry[1]) for place, entry in going[state]]))
             for state, end in enumerate(plan.ends)]
    block = numbered_kinds(kinds)
    many = 0
    # Blocks are split by what their states lead to, until nothing changes.
    while many < len(set(block)):
        many = len(set(block))
        block = numbered_kinds([(block[state], tuple([block[entry[0]] for _, entry in steps]))
                                for state, steps in enumerate(going)])
    steps = {(block[state], k, number): (block[goal], news)
             for (state, k, number), (goal, news) in plan.steps.items()}
    firsts = [None if first is None else (block[first[0]], first[1]) for first in plan.firsts]
    shown = first_of_each(block)
    return Plan(plan.letters, plan.ahead, firsts, steps, [plan.ends[state] for state in shown],
                [plan.sizes[state] for state in shown])


def with_merged_classes_of(plan):
    """The plan with one class for all that are equivalent."""
    going = [[] for _ in plan.ahead]
    for state, k, number in sorted(plan.steps):
        going[number].append((state, k, plan.steps[(state, k, number)]))
    kinds = [(plan.firsts[number], tuple(steps)) for number, steps in enumerate(going)]
    block = numbered_kinds(blocks_of(plan.ahead, kinds))
    shown = first_of_each(block)
    ahead = [tuple([block[goal] for goal in plan.ahead[number]]) for number in shown]
    steps = {(state, k, block[number]): entry for (state, k, number), entry in plan.steps.items()}
    return Plan(plan.letters, ahead, [plan.firsts[number] for number in shown], steps, plan.ends, plan.sizes)


def numbered_kinds(kinds):
    """For each kind its number, in the order in which they are first met."""
    numbers = {}
    return [numbers.setdefault(kind, len(numbers)) for kind in kinds]


def first_of_each(block):
    """The first one of each block, in the order of the blocks' numbers."""
    shown = {}
    for number, name in enumerate(block):
        shown.setdefault(name, number)
    return list(shown.values())
