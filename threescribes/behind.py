"""The sketch of a plan that does two plans one behind the other.

A weft tells what the rest of a text makes of the boxes of the first plan: () if the value is there already, or a
tuple (head, box, act, box, .., act, box, tail) of boxes and of the numbers of acts (acts.py) in the second
plan. Only boxes that come into the value stand there.
"""

from threescribes.acts import Acts
from threescribes.boxes import classes_behind
from threescribes.rows import boxes_in, told
from threescribes.threads import all_linked, kept_in_boxes, linked, strings_told, thread_of, untouched


class AfterSketch:
    """A plan that gives the value of a second plan at the value of a first one.

    A class has the class of the first plan and, for each state of it, a weft or None. A state has the state
    of the first plan and an entry for each box in the weft: a tuple of the box, the class of the second plan that
    what it holds has with what stands behind it, the state of the second plan behind it, and the shapes
    of the threads (threads.py) that the second plan makes of its own boxes while it reads what the box
    holds. The pieces of these threads are in the boxes of this plan, in so many for each box of the first one
    that they always have room.
    """

    def __init__(self, one, other):
        self.letters = one.letters
        self.one = one
        self.other = other
        self.acts = Acts(other)
        self.room = 2 * max(other.sizes + [0])
        self.classes_known = {}
        self.rows_known = {}
        self.going = {}
        for (state, k, number), (goal, news) in one.steps.items():
            self.going.setdefault((k, number), []).append((state, goal, news))

    def empty(self):
        """The class of the empty text."""
        whole = (self.acts.head, 0, self.acts.tail)
        return (0, tuple([None if end is None else self.woven(whole, (end,)) for end in self.one.ends]))

    def behind(self, key, k):
        """The class of a letter and a rest."""
        number, wefts = key
        found = [None] * len(wefts)
        for state, goal, news in self.going.get((k, number), []):
            if wefts[goal] is not None:
                found[state] = self.woven(wefts[goal], news)
        return (self.one.ahead[number][k], tuple(found))

    def woven(self, weft, news):
        """The weft with rows in the place of its boxes, or None if there is no value."""
        boxes = []
        acts = [[weft[0]]] if weft else []
        for at in range(1, len(weft), 2):
            for item in news[weft[at]]:
                if isinstance(item, str):
                    acts[-1].append(self.acts.act_of(item))
                else:
                    boxes.append(item)
                    acts.append([self.acts.nothing])
            acts[-1].append(weft[at + 1])
        if any([None in row for row in acts]):
            return None
        found = [self.acts.row_of(row) for row in acts]
        if weft and (self.acts.is_lost(found[0]) or self.acts.is_lost(found[-1])):
            return None
        between = [part for box, act in zip(boxes, found[1:]) for part in (box, act)]
        return tuple(found[:1] + between) if boxes else ()

    def first(self, key):
        """The beginning of a text."""
        number, wefts = key
        first = self.one.firsts[number]
        if first is None or wefts[first[0]] is None:
            return None
        contents = told(first[1])
        if self.woven(wefts[first[0]], contents) is None:
            return None
        entries, news = self.read(wefts[first[0]], contents, {})
        return ((first[0], entries), tuple(["".join(row) for row in news]))

    def step(self, state, k, key):
        """The step at a letter."""
        goal, news = self.one.steps[(state[0], k, key[0])]
        entries, rows = self.read(key[1][goal], news, by_box(state[1]))
        return ((goal, entries), rows)

    def end(self, state):
        """The end of a text."""
        row = self.one.ends[state[0]]
        known = by_box(state[1])
        first, contents = self.other.firsts[self.class_ahead(row, 0, known)]
        goal, threads = self.read_items(row, first, 0, known, strings_told(contents))
        return linked(thread_of(self.other.ends[goal]), threads)[1][0]

    def read(self, weft, news, known):
        """The entries for the boxes in a weft and the rows of this plan's boxes, behind a step of the first plan."""
        number = self.acts.class_of_tail(weft[-1]) if weft else 0
        behind = {}
        ahead = {}
        for at in range(len(weft) - 2, 0, -2):
            if at + 2 < len(weft):
                number = self.acts.class_ahead(weft[at + 1], number)
            behind[weft[at]] = number
            number = self.class_ahead(news[weft[at]], number, known)
            ahead[weft[at]] = number
        state = self.acts.state_of_head(weft[0], number) if weft else 0
        entries = {}
        rows = [()] * (self.room * len(news))
        for at in range(1, len(weft), 2):
            box = weft[at]
            if at > 1:
                state = self.acts.state_behind(weft[at - 1], ahead[box], state)
            state, shapes, pieces = self.read_row(news[box], state, behind[box], known)
            entries[box] = (box, ahead[box], state, shapes)
            rows[self.room * box:self.room * box + len(pieces)] = pieces
        return tuple([entries[box] for box in sorted(entries)]), tuple(rows)

    def class_ahead(self, row, number, known):
        """The class of a row of the first plan with a class of the second one behind it."""
        for item in row[::-1]:
            number = self.classes_in(item, number)[0] if isinstance(item, str) else known[item][1]
        return number

    def classes_in(self, string, number):
        """The classes of a string with a class behind it, and of its rests, the shortest one last."""
        if (string, number) not in self.classes_known:
            indices = [self.other.letters.index(sign) for sign in string]
            self.classes_known[(string, number)] = classes_behind(self.other.ahead, [0] + indices, number)
        return self.classes_known[(string, number)]

    def read_row(self, row, state, number, known):
        """What a row of the first plan does with a class behind it, if it is begun in a state of the second plan.

        That is the state behind it, the shapes of the threads, and the list of their pieces.
        """
        key = (row, state, number, tuple([known[box] for box in boxes_in(row)]))
        if key not in self.rows_known:
            goal, threads = self.read_items(row, state, number, known, untouched(self.other.sizes[state]))
            pieces = [piece for _, part in threads for piece in part]
            self.rows_known[key] = (goal, tuple([shape for shape, _ in threads]), pieces)
        return self.rows_known[key]

    def read_items(self, row, state, number, known, threads):
        """The state behind a row of the first plan and the threads there, by the state and the threads ahead of it."""
        behind = [number]
        for item in row[:0:-1]:
            behind.append(self.class_ahead((item,), behind[-1], known))
        for item, number_behind in zip(row, behind[::-1]):
            if isinstance(item, str):
                state, threads = self.read_string(item, state, number_behind, threads)
            else:
                state = known[item][2]
                threads = all_linked(kept_in_boxes(known[item][3], self.room * item), threads)
        return state, threads

    def read_string(self, string, state, number, threads):
        """The same for a string."""
        for sign, behind in zip(string, self.classes_in(string, number)[1:]):
            state, news = self.other.steps[(state, self.other.letters.index(sign), behind)]
            threads = all_linked([thread_of(row) for row in news], threads)
        return state, threads


def by_box(entries):
    """A dict of entries by their boxes."""
    return {entry[0]: entry for entry in entries}
