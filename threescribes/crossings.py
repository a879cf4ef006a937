"""Box machines of heads.

A run of a head that ends crosses the border between two places in states, by turns to the right and to the left, to
the right first and last. What it writes between two such crossings on the left is a stretch.
"""

from threescribes.lean import lean
from threescribes.plans import machine_of_plan, plan_of
from threescribes.rows import joined

NEITHER = -1
ENDS = -2


def boxes_of_head(head):
    """A box machine with the same function as a head."""
    return machine_of_plan(lean(plan_of(CrossingSketch(head))))


class CrossingSketch:
    """A plan that gives what a head writes.

    A class has the right class and a table: for each left class and each state in which the head may come to
    the rest from the left, the state in which it comes back, or that it ends there, or neither. A state has
    the left class of the rest and the states of all crossings to the right of the border ahead of it.
    There is a box for each stretch.
    """

    def __init__(self, head):
        self.letters, self.behind_left, self.ahead, self.moves = head[1:]
        met = [move for numbers in self.moves for by_left in numbers for entries in by_left for move in entries]
        goals = sorted({move[0] for move in met if move is not None and move[1] == 1})
        self.places = {state: at for at, state in enumerate(goals)}

    def empty(self):
        """The class of the empty text: that of the right mark."""
        mark = len(self.letters) + 1
        table = []
        for left in range(len(self.behind_left)):
            row = []
            for state in self.places:
                move = self.moves[state][mark][left][0]
                row.append(NEITHER if move is None else ENDS if move[1] == 1 else move[0])
            table.append(tuple(row))
        return (0, tuple(table))

    def behind(self, key, k):
        """The class of a letter and a rest."""
        table = []
        for left in range(len(self.behind_left)):
            column = [numbers[k][left][key[0]] for numbers in self.moves]
            rest = key[1][self.behind_left[left][k]]
            table.append(tuple([self.crossed(state, column, rest) for state in self.places]))
        return (self.ahead[key[0]][k], tuple(table))

    def crossed(self, state, column, rest):
        """How the head comes from a place to which it comes from the left: back in a state, to an end, or neither.

        column has its move in each state at this place, and rest is the row of the table for what is to the right.
        """
        met = {}
        while state not in met:
            met[state] = True
            move = column[state]
            if move is None:
                return NEITHER
            if move[1] == -1:
                return move[0]
            state = rest[self.places[move[0]]]
            if state < 0:
                return state
        return NEITHER

    def first(self, key):
        """The beginning of a text: the head goes on from the left mark whenever it is there."""
        column = [numbers[len(self.letters)][0][key[0]] for numbers in self.moves]
        table = key[1][0]
        crossings = []
        contents = []
        state = 0
        while state != ENDS:
            move = None if state == NEITHER else column[state]
            if move is None or move[0] in crossings:
                return None
            crossings.append(move[0])
            contents.append(move[2])
            state = table[self.places[move[0]]]
        return ((0, tuple(crossings)), tuple(contents))

    def step(self, state, k, key):
        """The step at a letter."""
        left, crossings = state
        column = [numbers[k][left][key[0]] for numbers in self.moves]
        behind = self.behind_left[left][k]
        table = key[1][behind]
        found = []
        news = []
        row = [0]
        used = 1
        here = crossings[0]
        while here != ENDS:
            goal, step, string = column[here]
            row.append(string)
            if step == 1:
                found.append(goal)
                news.append(joined(row))
                row = []
                here = table[self.places[goal]]
            else:
                # The head comes back in the next one of the crossings that are known.
                row.append(used)
                here = crossings[used]
                used += 1
        return ((behind, tuple(found)), tuple(news))

    def end(self, state):
        """The end of a text: the head turns at the right mark until it ends there."""
        left, crossings = state
        row = []
        for box, here in enumerate(crossings):
            row.extend([box, self.moves[here][len(self.letters) + 1][left][0][2]])
        return joined(row)
