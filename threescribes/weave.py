"""Plans that do two plans one behind the other."""

from threescribes.lean import lean
from threescribes.masks import bits_of
from threescribes.plans import Plan, padded, plan_of, sources_of_classes
from threescribes.rows import boxes_in
from threescribes.runs import RunSketch
from threescribes.threads import all_linked, kept_in_boxes


def woven(one, other):
    """A lean plan with the values of the second plan at the values of the first one."""
    sketch = RunSketch(one, other)
    run = lean(plan_of(sketch))
    return lean(Weave(run, sketch.threads, 2 * max(other.sizes + [0])).whole_plan())


class Weave:
    """The plan that does what the tokens (runs.py) tell that another plan, the run, gives.

    A state has the state of the run and, for each box of the run, the number of its shapes: those of the threads that
    its tokens make of the second plan's boxes. The pieces of these threads are in the boxes of this plan, in
    so many for each box of the run that they always have room.
    """

    def __init__(self, run, threads, room):
        self.run = run
        self.threads = threads
        self.room = room
        self.strings_known = {}
        self.shape_numbers = {}
        self.shapes = []
        self.parts = []
        self.news = {}
        self.numbers = {}
        self.names = []
        self.moves = []
        self.met = []
        self.pending = []
        self.waiting = []
        self.masks_known = {}
        self.sources = sources_of_classes(run.ahead)
        self.frames = [self.frame_with_moves(state) for state in range(len(run.ends))]
        self.rows = self.numbered_rows()

    def frame_with_moves(self, state):
        """The frame of a state of the run in which each of its moves stands once, and these moves."""
        moves = self.run.moves[state]
        slots = {}
        frame = self.run.frames[self.run.frame_of[state]]
        found = {place: slots.setdefault(moves[slot], len(slots)) for place, slot in frame.items()}
        return found, list(slots)

    def whole_plan(self):
        """The plan with all states that are met."""
        run = self.run
        firsts = [None if first is None else self.begun(number, first) for number, first in enumerate(run.firsts)]
        while self.waiting:
            state = self.waiting.pop()
            self.go_on(state)
        found = Plan(run.letters, run.ahead, firsts, list(self.news), [rows for _, rows in self.parts])
        found.frames = [frame for frame, _ in self.frames]
        for state, name in enumerate(self.names):
            end = self.end(name) if self.met[state] & 1 else None
            found.add_state(name[0], self.moves[state], end, self.room * (len(name) - 1), self.met[state])
        return found

    def begun(self, number, first):
        """The beginning of a text of a class."""
        parts = [self.part_of((string,), ()) for string in first[1]]
        state = self.met_with((first[0],) + tuple([shape for shape, _ in parts]), 1 << number)
        return (state, tuple(["".join(row) for _, pieces in parts for row in pieces]))

    def met_with(self, name, mask):
        """The number of a state that is met with some classes of the rest."""
        if name not in self.numbers:
            self.numbers[name] = len(self.names)
            self.names.append(name)
            self.met.append(0)
            self.pending.append(0)
            self.moves.append([None] * len(self.frames[name[0]][1]))
        state = self.numbers[name]
        new = mask ^ (mask & self.met[state])
        if new:
            if not self.pending[state]:
                self.waiting.append(state)
            self.pending[state] |= new
            self.met[state] |= new
        return state

    def go_on(self, state):
        """Goes on from a state with the classes with which it has been met since."""
        name = self.names[state]
        moves = self.moves[state]
        mask = self.pending[state]
        self.pending[state] = 0
        for slot, behind in self.masks_behind(name[0], mask):
            if moves[slot] is None:
                goal, news = self.move(name, self.frames[name[0]][1][slot])
                moves[slot] = (self.met_with(goal, behind), news)
            else:
                self.met_with(self.names[moves[slot][0]], behind)

    def masks_behind(self, state, mask):
        """The moves of a state of the run that are done with some classes of the rest, and the classes behind them."""
        if (state, mask) not in self.masks_known:
            frame = self.frames[state][0]
            found = {}
            for number in bits_of(mask):
                for place in self.sources[number]:
                    found[frame[place]] = found.get(frame[place], 0) | 1 << place[1]
            self.masks_known[(state, mask)] = list(found.items())
        return self.masks_known[(state, mask)]

    def numbered_rows(self):
        """For each news of the run its rows, with the places of their boxes in names, and the parts they have made."""
        known = {row: {} for news in self.run.news for row in news}
        return [[(row, [box + 1 for box in boxes_in(row)], known[row]) for row in news] for news in self.run.news]

    def move(self, name, move):
        """The name of the next state, and the number of the news, for a move of the run."""
        parts = []
        for row, places, known in self.rows[move[1]]:
            key = name[places[0]] if len(places) == 1 else tuple([name[place] for place in places])
            if key not in known:
                known[key] = len(self.parts)
                self.parts.append(self.part_of(row, name))
            parts.append(known[key])
        goal = (move[0],) + tuple([self.parts[part][0] for part in parts])
        return goal, self.news.setdefault(tuple(parts), len(self.news))

    def part_of(self, row, name):
        """The number of the shapes of a row of the run, and the rows of this plan's boxes for their pieces."""
        threads = self.threads_of(row, name)
        shapes = tuple([shape for shape, _ in threads])
        if shapes not in self.shape_numbers:
            self.shape_numbers[shapes] = len(self.shapes)
            self.shapes.append(shapes)
        return self.shape_numbers[shapes], padded([piece for _, pieces in threads for piece in pieces], self.room)

    def threads_of(self, row, name):
        """The threads that a row of the run makes."""
        threads = None
        # From behind, as there are few threads at an end.
        for item in row[::-1]:
            if isinstance(item, str):
                earlier = self.threads_of_string(item)
            else:
                earlier = kept_in_boxes(self.shapes[name[item + 1]], self.room * item)
            threads = earlier if threads is None else all_linked(threads, earlier)
        return threads

    def threads_of_string(self, string):
        """The threads of some tokens."""
        if string not in self.strings_known:
            threads = None
            for token in string.split():
                later = self.threads[int(token)]
                threads = later if threads is None else all_linked(later, threads)
            self.strings_known[string] = threads
        return self.strings_known[string]

    def end(self, name):
        """The row of an end. It makes just one thread, of one piece."""
        return self.threads_of(self.run.ends[name[0]], name)[0][1][0]
