"""Box machines of heads.

A run of a head that ends crosses the border between two places in states, by turns to the right and to the left, to
the right first and last. What it writes between two such crossings on the left is a stretch.
"""

from threescribes.lean import lean
from threescribes.plans import machine_of_plan, plan_of
from threescribes.rows import joined

NEITHER = -1
ENDS = -2


def boxes_of_head(head):
    """A box machine with the same function as a head."""
    return machine_of_plan(lean(plan_of(CrossingSketch(head))))


class CrossingSketch:
    """A plan that gives what a head writes.

    A class has the right class and a table: for each left class and each state in which the head may come to
    the rest from the left, the state in which it comes back, or that it ends there, or neither; and whether it is
    silent there, writing nothing. A state has the left class of the rest and all crossings to the right of the
    border ahead of it: the state of each one, and whether the head is silent behind it until it comes back.
    There is a box for each stretch, but where the head is silent between two stretches they share one.
    """

    def __init__(self, head):
        self.letters, self.behind_left, self.ahead, self.moves = head[1:]
        met = [move for numbers in self.moves for by_left in numbers for entries in by_left for move in entries]
        goals = sorted({move[0] for move in met if move is not None and move[1] == 1})
        self.places = {state: at for at, state in enumerate(goals)}

    def empty(self):
        """The class of the empty text: that of the right mark."""
        mark = len(self.letters) + 1
        table = []
        for left in range(len(self.behind_left)):
            row = []
            for state in self.places:
                move = self.moves[state][mark][left][0]
                found = NEITHER if move is None else ENDS if move[1] == 1 else move[0]
                row.append((found, found >= 0 and move[2] == ""))
            table.append(tuple(row))
        return (0, tuple(table))

    def behind(self, key, k):
        """The class of a letter and a rest."""
        table = []
        for left in range(len(self.behind_left)):
            place = (k, left, key[0])
            rest = key[1][self.behind_left[left][k]]
            table.append(tuple([self.crossed(state, place, rest) for state in self.places]))
        return (self.ahead[key[0]][k], tuple(table))

    def move(self, state, place):
        """The move in a state at a place, told by its number and the classes on both sides."""
        number, left, right = place
        return self.moves[state][number][left][right]

    def crossed(self, state, place, rest):
        """How the head comes from a place to which it comes from the left: back in a state, to an end, or neither.

        The place is told by its number and the classes on both sides; rest is the row of the table for what is
        to the right.
        """
        met = {}
        is_silent = True
        while state not in met:
            met[state] = True
            move = self.move(state, place)
            if move is None:
                return (NEITHER, False)
            is_silent = is_silent and move[2] == ""
            if move[1] == -1:
                return (move[0], is_silent)
            state, is_rest_silent = rest[self.places[move[0]]]
            if state < 0:
                return (state, False)
            is_silent = is_silent and is_rest_silent
        return (NEITHER, False)

    def first(self, key):
        """The beginning of a text: the head goes on from the left mark whenever it is there."""
        mark = (len(self.letters), 0, key[0])
        table = key[1][0]
        met = {}
        crossings = []
        contents = [""]
        state = 0
        while state != ENDS:
            move = None if state == NEITHER or state in met else self.move(state, mark)
            if move is None:
                return None
            met[state] = True
            contents[-1] += move[2]
            state, is_silent = table[self.places[move[0]]]
            crossings.append((move[0], is_silent))
            if not is_silent and state != ENDS:
                contents.append("")
        return ((0, tuple(crossings)), tuple(contents))

    def step(self, state, k, key):
        """The step at a letter."""
        left, crossings = state
        place = (k, left, key[0])
        behind = self.behind_left[left][k]
        table = key[1][behind]
        found = []
        rows = [[0]]
        box = 0
        used = 1
        here = crossings[0][0]
        while here != ENDS:
            goal, step, string = self.move(here, place)
            rows[-1].append(string)
            if step == 1:
                here, is_silent = table[self.places[goal]]
                found.append((goal, is_silent))
                if not is_silent and here != ENDS:
                    rows.append([])
            else:
                # The head comes back by the next one of the crossings that are known.
                if not crossings[used - 1][1]:
                    box += 1
                    rows[-1].append(box)
                here = crossings[used][0]
                used += 1
        return ((behind, tuple(found)), tuple([joined(row) for row in rows]))

    def end(self, state):
        """The end of a text: the head turns at the right mark until it ends there."""
        left, crossings = state
        row = [0]
        box = 0
        for at, (here, is_silent) in enumerate(crossings):
            row.append(self.moves[here][len(self.letters) + 1][left][0][2])
            if not is_silent and at + 1 < len(crossings):
                box += 1
                row.append(box)
        return joined(row)
