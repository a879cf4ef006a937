"""Plans made lean: without boxes that do not matter, and with one state or class for all that are equivalent."""

from threescribes.blocks import blocks_of
from threescribes.masks import bits_of, mask_of
from threescribes.plans import Plan
from threescribes.rows import joined

MANY_STATES = 20000


def lean(plan):
    """A plan with the same function, with fewer boxes, states and classes where that is easily seen."""
    found = with_fewer_boxes(plan)
    # Of very many states of a plan that has parts nearly all are different, and it takes long to see it.
    if plan.parts is None or len(found.ends) <= MANY_STATES:
        found = with_merged_states_of(found)
    # Merging classes makes no states equivalent: where classes are, the steps of all states are equal.
    return with_merged_classes_of(with_fewer_slots(found))


def boxes_of_row(row):
    """The boxes of a row, as bits."""
    return mask_of([item for item in row if not isinstance(item, str)])


class Kept:
    """The boxes of a plan's states that are kept, as bits of integers, and the rows that are left of its news."""

    def __init__(self, plan):
        self.plan = plan
        self.parts = plan.news if plan.parts is None else plan.parts
        self.news = [(at,) for at in range(len(plan.news))] if plan.parts is None else plan.news
        self.into = [[boxes_of_row(row) for row in part] for part in self.parts]
        self.strings = [mask_of([box for box, row in enumerate(part) if any([isinstance(item, str) for item in row])])
                        for part in self.parts]
        self.into_known = [{} for _ in self.parts]
        self.full_known = [{} for _ in self.parts]
        self.rows_known = {}
        self.moves_known = {}
        self.numbers = {}
        matter = self.boxes_that_matter()
        full = self.boxes_that_may_be_full()
        self.masks = [some & others for some, others in zip(matter, full)]
        self.bits = {mask: bits_of(mask) for mask in self.masks}

    def boxes_that_matter(self):
        """For each state its boxes that come into a value."""
        plan = self.plan
        matter = [0 if end is None else boxes_of_row(end) for end in plan.ends]
        sources = [[] for _ in matter]
        for state, moves in enumerate(plan.moves):
            for move in moves:
                if move is not None:
                    sources[move[0]].append((state, move[1]))
        waiting = [state for state, mask in enumerate(matter) if mask]
        while waiting:
            goal = waiting.pop()
            for state, news in sources[goal]:
                mask = self.come_into(news, matter[goal]) | matter[state]
                if mask != matter[state]:
                    matter[state] = mask
                    waiting.append(state)
        return matter

    def come_into(self, news, mask):
        """The boxes that come into some boxes by a news."""
        found = 0
        for part in self.news[news]:
            into = self.into[part]
            here = mask & (1 << len(into)) - 1
            mask >>= len(into)
            known = self.into_known[part]
            if here not in known:
                known[here] = union_of([into[box] for box in bits_of(here)])
            found |= known[here]
        return found

    def boxes_that_may_be_full(self):
        """For each state its boxes that may hold something."""
        plan = self.plan
        full = [0] * len(plan.ends)
        for first in plan.firsts:
            if first is not None:
                full[first[0]] |= mask_of([box for box, string in enumerate(first[1]) if string != ""])
        waiting = list(range(len(full)))
        while waiting:
            state = waiting.pop()
            for move in plan.moves[state]:
                if move is not None:
                    mask = self.made_full(move[1], full[state]) | full[move[0]]
                    if mask != full[move[0]]:
                        full[move[0]] = mask
                        waiting.append(move[0])
        return full

    def made_full(self, news, mask):
        """The boxes that hold something behind a news, if some boxes may do so ahead of it."""
        found = 0
        begin = 0
        for part in self.news[news]:
            into = self.into[part]
            known = self.full_known[part]
            if mask not in known:
                boxes = mask_of([box for box, sources in enumerate(into) if sources & mask])
                known[mask] = boxes | self.strings[part]
            found |= known[mask] << begin
            begin += len(into)
        return found

    def renamed(self, row, mask):
        """A row of the boxes that are kept, by their new numbers."""
        names = {box: at for at, box in enumerate(self.bits[mask])}
        return joined([item if isinstance(item, str) else names.get(item, "") for item in row])

    def rows_left(self, part, mask, here):
        """The rows that are left of a part, of the boxes here, if some boxes are kept ahead of it."""
        key = (part, mask, here)
        if key not in self.rows_known:
            rows = self.parts[part]
            self.rows_known[key] = tuple([self.renamed(rows[box], mask) for box in bits_of(here)])
        return self.rows_known[key]

    def moved(self, state, move):
        """A move with the rows that are left of its news."""
        if move is None:
            return None
        mask, goal_mask = self.masks[state], self.masks[move[0]]
        key = (move[1], mask, goal_mask)
        if key not in self.moves_known:
            rows = ()
            for part in self.news[move[1]]:
                many = len(self.into[part])
                rows = rows + self.rows_left(part, mask, goal_mask & (1 << many) - 1)
                goal_mask >>= many
            self.moves_known[key] = self.numbers.setdefault(rows, len(self.numbers))
        return (move[0], self.moves_known[key])


def union_of(masks):
    """All bits of some integers."""
    found = 0
    for mask in masks:
        found |= mask
    return found


def with_fewer_boxes(plan):
    """The plan without the boxes of states that come into no value, and without those that are always empty."""
    kept = Kept(plan)
    boxes = [bits_of(mask) for mask in kept.masks]
    moves = [[kept.moved(state, move) for move in moves] for state, moves in enumerate(plan.moves)]
    firsts = [None if first is None else (first[0], tuple([first[1][box] for box in boxes[first[0]]]))
              for first in plan.firsts]
    found = Plan(plan.letters, plan.ahead, firsts, list(kept.numbers))
    found.frames = plan.frames
    for state, end in enumerate(plan.ends):
        row = None if end is None else kept.renamed(end, kept.masks[state])
        found.add_state(plan.frame_of[state], moves[state], row, len(boxes[state]), plan.met[state])
    return found


def with_merged_states_of(plan):
    """The plan with one state for all that are equivalent."""
    kinds = [(plan.sizes[state], plan.ends[state], plan.frame_of[state],
              tuple([None if move is None else move[1] for move in moves])) for state, moves in enumerate(plan.moves)]
    block = numbered_kinds(kinds)
    goals = [[move[0] for move in moves if move is not None] for moves in plan.moves]
    many = 0
    # Blocks are split by what their states lead to, until nothing changes.
    while many < max(block + [-1]) + 1:
        many = max(block) + 1
        block = numbered_kinds([(block[state], tuple([block[goal] for goal in behind]))
                                for state, behind in enumerate(goals)])
    firsts = [None if first is None else (block[first[0]], first[1]) for first in plan.firsts]
    found = Plan(plan.letters, plan.ahead, firsts, plan.news)
    found.frames = plan.frames
    for state in first_of_each(block):
        moves = [None if move is None else (block[move[0]], move[1]) for move in plan.moves[state]]
        found.add_state(plan.frame_of[state], moves, plan.ends[state], plan.sizes[state], 0)
    for state, met in enumerate(plan.met):
        found.met[block[state]] |= met
    return found


def with_fewer_slots(plan):
    """The plan with one place in a frame for all whose moves are the same in all states of this frame."""
    states = [[] for _ in plan.frames]
    for state, frame in enumerate(plan.frame_of):
        states[frame].append(state)
    found = Plan(plan.letters, plan.ahead, plan.firsts, plan.news)
    kept = []
    for frame, members in zip(plan.frames, states):
        columns = [plan.moves[state] for state in members]
        slots = numbered_kinds([tuple(moves) for moves in zip(*columns)])
        kept.append(first_of_each(slots))
        found.frames.append({place: slots[slot] for place, slot in frame.items()} if members else {})
    for state, frame in enumerate(plan.frame_of):
        moves = [plan.moves[state][slot] for slot in kept[frame]]
        found.add_state(frame, moves, plan.ends[state], plan.sizes[state], plan.met[state])
    return found


def with_merged_classes_of(plan):
    """The plan with one class for all that are equivalent."""
    going = [[] for _ in plan.ahead]
    for at, frame in enumerate(plan.frames):
        for k, number in sorted(frame):
            going[number].append((at, k, frame[(k, number)]))
    kinds = [(plan.firsts[number], tuple(steps)) for number, steps in enumerate(going)]
    block = numbered_kinds(blocks_of(plan.ahead, kinds))
    shown = first_of_each(block)
    ahead = [tuple([block[goal] for goal in plan.ahead[number]]) for number in shown]
    found = Plan(plan.letters, ahead, [plan.firsts[number] for number in shown], plan.news)
    found.frames = [{(k, block[number]): slot for (k, number), slot in frame.items()} for frame in plan.frames]
    for state, met in enumerate(plan.met):
        met = mask_of([block[number] for number in bits_of(met)])
        found.add_state(plan.frame_of[state], plan.moves[state], plan.ends[state], plan.sizes[state], met)
    return found


def numbered_kinds(kinds):
    """For each kind its number, in the order in which they are first met."""
    numbers = {}
    return [numbers.setdefault(kind, len(numbers)) for kind in kinds]


def first_of_each(block):
    """The first one of each block, in the order of the blocks' numbers."""
    shown = {}
    for number, name in enumerate(block):
        shown.setdefault(name, number)
    return list(shown.values())
