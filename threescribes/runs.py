"""The sketch of a plan that tells the run of a second plan at the value of a first one.

The run is a text of tokens: numbers of threads (threads.py), each followed by a space. The first one tells what the
boxes of the second plan hold at the beginning, then comes what each step does, and at last what the end
does. A token of which nothing changes is left out, but where there would be none.

A weft tells what the rest of a text makes of the boxes of the first plan: () if the value is there already, or a
tuple (head, box, act, box, .., act, box, tail) of boxes and of the numbers of acts (acts.py) in the second
plan. Only boxes that come into the value stand there.
"""

from threescribes.acts import Acts
from threescribes.boxes import classes_behind
from threescribes.rows import joined, told
from threescribes.threads import thread_of

NO_WEFT = -1


class RunSketch:
    """A plan that gives the run of a second plan at the value of a first one.

    A class has the class of the first plan and, for each state of it, the number of a weft or NO_WEFT. A state
    has the state of the first plan and the number of an entry for each box in the weft: a tuple of the box, the
    class of the second plan that what it holds has with what stands behind it, and the state of the second
    plan behind it. There is a box for each entry, with the run at what the first plan's box holds.
    """

    def __init__(self, one, other):
        self.letters = one.letters
        self.one = one
        self.other = other
        self.acts = Acts(other)
        self.threads = []
        self.numbers = {}
        self.wefts = []
        self.weft_numbers = {}
        self.wefts_known = {}
        self.classes_known = {}
        self.many = max(one.sizes + [1])
        self.entries = []
        self.entry_numbers = {}
        self.boxes_known = {}
        self.steps_known = {}
        self.rows_known = {}
        self.nothing_done = [(self.kept_token(unchanged(size)),) for size in other.sizes]
        # Then nearly each step is asked for just once, and there is no use in keeping it.
        self.is_simple = len(one.ends) == 1 and len(one.ahead) == 1
        self.going = {}
        for state, moves in enumerate(one.moves):
            for (k, number), slot in one.frames[one.frame_of[state]].items():
                if one.met[state] >> one.ahead[number][k] & 1:
                    self.going.setdefault((k, number), []).append((state, moves[slot]))

    def empty(self):
        """The class of the empty text."""
        whole = (self.acts.head, 0, self.acts.tail)
        wefts = [None if end is None else self.woven(whole, (end,)) for end in self.one.ends]
        return (0, tuple([self.numbered(weft) for weft in wefts]))

    def behind(self, key, k):
        """The class of a letter and a rest."""
        number, wefts = key
        found = [NO_WEFT] * len(wefts)
        for state, (goal, news) in self.going.get((k, number), []):
            if wefts[goal] != NO_WEFT:
                place = (wefts[goal], news)
                if place not in self.wefts_known:
                    self.wefts_known[place] = self.numbered(self.woven(self.wefts[wefts[goal]], self.one.news[news]))
                found[state] = self.wefts_known[place]
        return (self.one.ahead[number][k], tuple(found))

    def numbered(self, weft):
        """The number of a weft, or NO_WEFT for None."""
        if weft is None:
            return NO_WEFT
        if weft not in self.weft_numbers:
            self.weft_numbers[weft] = len(self.wefts)
            self.wefts.append(weft)
        return self.weft_numbers[weft]

    def woven(self, weft, news):
        """The weft with rows in the place of its boxes, or None if there is no value."""
        boxes = []
        acts = [[weft[0]]] if weft else []
        for at in range(1, len(weft), 2):
            for item in news[weft[at]]:
                if isinstance(item, str):
                    acts[-1].append(self.acts.act_of(item))
                else:
                    boxes.append(item)
                    acts.append([self.acts.nothing])
            acts[-1].append(weft[at + 1])
        if any([None in row for row in acts]):
            return None
        found = [self.acts.row_of(row) for row in acts]
        if weft and (self.acts.is_lost(found[0]) or self.acts.is_lost(found[-1])):
            return None
        between = [part for box, act in zip(boxes, found[1:]) for part in (box, act)]
        return tuple(found[:1] + between) if boxes else ()

    def first(self, key):
        """The beginning of a text."""
        number, wefts = key
        first = self.one.firsts[number]
        if first is None or wefts[first[0]] == NO_WEFT:
            return None
        weft = self.wefts[wefts[first[0]]]
        contents = told(first[1])
        if self.woven(weft, contents) is None:
            return None
        entries, news = self.read(weft, contents, {})
        return ((first[0],) + entries, tuple(["".join(row) for row in news]))

    def step(self, state, k, key):
        """The step at a letter."""
        move = self.one.move(state[0], k, key[0])
        place = (state, move, key[1][move[0]])
        if place not in self.steps_known:
            goal, news = move
            entries, rows = self.read(self.wefts[key[1][goal]], self.one.news[news], self.by_box(state))
            step = ((goal,) + entries, rows)
            if self.is_simple:
                return step
            self.steps_known[place] = step
        return self.steps_known[place]

    def end(self, state):
        """The end of a text."""
        row = self.one.ends[state[0]]
        known = self.by_box(state)
        first, contents = self.other.firsts[self.class_ahead(row, 0, known)]
        goal, run = self.read_row(row, first, 0, known)
        return joined((self.token(told(contents)),) + run + (self.token((self.other.ends[goal],)),))

    def by_box(self, state):
        """For each box in the weft: the place of its entry in a state, the class ahead, the state behind, a number."""
        if state not in self.boxes_known:
            found = {}
            for at, number in enumerate(state[1:]):
                box, ahead, behind = self.entries[number]
                found[box] = (at, ahead, behind, number * self.many + at)
            self.boxes_known[state] = found
        return self.boxes_known[state]

    def read(self, weft, news, known):
        """The entries for the boxes in a weft and the rows of this plan's boxes, behind a step of the first plan."""
        if weft == ():
            return (), ()
        number = self.acts.class_of_tail(weft[-1])
        behind = []
        ahead = []
        for at in range(len(weft) - 2, 0, -2):
            if behind:
                number = self.acts.class_ahead(weft[at + 1], number)
            behind.append(number)
            number = self.class_ahead(news[weft[at]], number, known)
            ahead.append(number)
        state = self.acts.state_of_head(weft[0], number)
        found = []
        for at in range(1, len(weft), 2):
            number = ahead.pop()
            if found:
                state = self.acts.state_behind(weft[at - 1], number, state)
            state, run = self.read_row(news[weft[at]], state, behind.pop(), known)
            # Where nothing is done, it is told how many boxes there are to which nothing is done.
            found.append(((weft[at], number, state), run or self.nothing_done[state]))
        found = sorted(found)
        return tuple([self.entry_number(entry) for entry, _ in found]), tuple([row for _, row in found])

    def entry_number(self, entry):
        """The number of an entry."""
        if entry not in self.entry_numbers:
            self.entry_numbers[entry] = len(self.entries)
            self.entries.append(entry)
        return self.entry_numbers[entry]

    def class_ahead(self, row, number, known):
        """The class of a row of the first plan with a class of the second one behind it."""
        # Of two items one is a box, of which it is known.
        for item in row[1::-1]:
            number = self.classes_in(item, number)[0] if isinstance(item, str) else known[item][1]
        return number

    def classes_in(self, string, number):
        """The classes of a string with a class behind it, and of its rests, the shortest one last."""
        if (string, number) not in self.classes_known:
            indices = [self.other.letters.index(sign) for sign in string]
            self.classes_known[(string, number)] = classes_behind(self.other.ahead, [0] + indices, number)
        return self.classes_known[(string, number)]

    def read_row(self, row, state, number, known):
        """The state behind a row of the first plan and the row of its run, begun in a state ahead of a class."""
        key = (row, state, number, tuple([known[item][3] for item in row if not isinstance(item, str)]))
        if key not in self.rows_known:
            self.rows_known[key] = self.read_items(row, state, number, known)
        return self.rows_known[key]

    def read_items(self, row, state, number, known):
        """The same for a row that has not been read before."""
        behind = [number]
        for item in row[:0:-1]:
            behind.append(self.class_ahead((item,), behind[-1], known))
        run = []
        for item, number_behind in zip(row, behind[::-1]):
            if isinstance(item, str):
                state, tokens = self.read_string(item, state, number_behind)
                run.append(tokens)
            else:
                at, _, state, _ = known[item]
                run.append(at)
        return state, joined(run)

    def read_string(self, string, state, number):
        """The state behind a string, begun in a state ahead of a class, and its run."""
        tokens = ""
        for sign, behind in zip(string, self.classes_in(string, number)[1:]):
            state, news = self.other.step(state, self.other.letters.index(sign), behind)
            tokens += self.token(news)
        return state, tokens

    def token(self, rows):
        """The token for what some rows do, or "" if they change nothing."""
        return "" if rows == unchanged(len(rows)) else self.kept_token(rows)

    def kept_token(self, rows):
        """The token for what some rows do."""
        if rows not in self.numbers:
            self.numbers[rows] = len(self.threads)
            self.threads.append([thread_of(row) for row in rows])
        return f"{self.numbers[rows]} "


def unchanged(many):
    """The rows that change nothing in so many boxes."""
    return tuple([(box,) for box in range(many)])
