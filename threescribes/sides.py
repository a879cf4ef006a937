"""Heads that know the class on one side of the place where they stand, though no one tells it.

Forward is the direction in which this class is known from the one before: to the right for left classes, to the left
for right classes. The near mark is the one where it is 0. Behind a step the other way there may be several
classes that give, with the letter there, the class that was known. Then the head seeks further on, to
see from which classes each of them comes, until only one is left or the near mark is reached, and comes
back with two classes, of which one leads to the right one and the other one to another one: where a
letter makes them the same, it was.
"""

FAR = "far"
HOME = "home"
AT = "at"
FROM = "from"
SEEK = "seek"
BACK = "back"
NO_CLASS = -1


class Side:
    """The moves of a head that knows the class on one side by itself.

    table has the class behind each letter, forward is 1 or -1, near is the number of the near mark, and
    moves[state][number][own][other] is the move of a head that is told this class and the one on the other side.

    The states are told by keys: (AT, state, class) knows the class of this place, (FROM, state, class) that of
    the place from where it comes. (SEEK, state, names) has a name for each class of the place from where it
    comes, the same one for those that lead to the same class where the search began, and NO_CLASS for those
    that lead to none which it may have been. (BACK, state, one, other) has the two classes with which it
    comes back. (FAR,) goes to the near mark, and (HOME, class) from there to the far mark, to know
    the class at the beginning.
    """

    def __init__(self, table, forward, near, moves):
        self.table = table
        self.forward = forward
        self.near = near
        self.moves = moves

    def all_moves(self, begin, others):
        """For each state that is met from the beginning, number, and class on the other side, the move or None."""
        numbers = len(self.table[0]) + 2
        names = {begin: 0}
        keys = [begin]
        found = []
        while len(found) < len(keys):
            key = keys[len(found)]
            moves = [[self.move(key, number, other) for other in range(others)] for number in range(numbers)]
            for goal in [move[0] for row in moves for move in row if move is not None]:
                if goal not in names:
                    names[goal] = len(keys)
                    keys.append(goal)
            found.append([[None if move is None else (names[move[0]],) + move[1:] for move in row] for row in moves])
        return found

    def move(self, key, number, other):
        """The move of a state at a number, with a class on the other side: a key, the step and what is written."""
        is_letter = number < len(self.table[0])
        kind = key[0]
        if kind == AT:
            return self.done(key[1], key[2], number, other)
        if kind == FROM:
            return self.move_from(key, number, other)
        if kind == SEEK:
            return self.sought(key, number)
        if kind == BACK:
            return self.move_back(key, number, other) if is_letter else None
        if kind == HOME:
            class_here = key[1]
            if not is_letter:
                return self.done(0, class_here, number, other)
            return ((HOME, self.table[class_here][number]), self.forward, "")
        if number == self.near:
            return ((HOME, 0), self.forward, "")
        return (key, -self.forward, "")

    def done(self, state, own, number, other):
        """The move of the head that is told the class."""
        move = self.moves[state][number][own][other]
        if move is None:
            return None
        goal, step, string = move
        if step == 1 and number == len(self.table[0]) + 1:
            # Here the head ends.
            return ((AT, 0, 0), step, string)
        if step != self.forward:
            return ((FROM, goal, own), step, string)
        behind = 0 if number == self.near else self.table[own][number]
        return ((AT, goal, behind), step, string)

    def move_from(self, key, number, other):
        """The move behind a step the other way."""
        _, state, known = key
        if number == self.near:
            return self.done(state, 0, number, other)
        if number >= len(self.table[0]):
            return None
        met = [own for own, goals in enumerate(self.table) if goals[number] == known]
        if len(met) == 1:
            return self.done(state, met[0], number, other)
        names = [own if own in met else NO_CLASS for own in range(len(self.table))]
        return ((SEEK, state, renamed(names)), -self.forward, "") if met else None

    def sought(self, key, number):
        """The move of a state that seeks the class with which the search began."""
        _, state, names = key
        if number == self.near:
            return self.turned(state, names, names[0])
        if number >= len(self.table[0]):
            return None
        further = [names[goals[number]] for goals in self.table]
        met = sorted({name for name in further if name != NO_CLASS})
        if len(met) < 2:
            return self.turned(state, names, met[0]) if met else None
        return ((SEEK, state, renamed(further)), -self.forward, "")

    def turned(self, state, names, right):
        """The move that turns back, where it is known which class is the right one."""
        if right == NO_CLASS:
            return None
        others = [own for own, name in enumerate(names) if name not in (right, NO_CLASS)]
        return ((BACK, state, names.index(right), others[0]), self.forward, "")

    def move_back(self, key, number, other):
        """The move of a state that comes back with two classes."""
        _, state, right, wrong = key
        goals = (self.table[right][number], self.table[wrong][number])
        if goals[0] == goals[1]:
            return self.done(state, right, number, other)
        return ((BACK, state) + goals, self.forward, "")


def renamed(names):
    """The names 0, 1 and so on in the place of others, in the order in which they are first met."""
    new = {NO_CLASS: NO_CLASS}
    return tuple([new.setdefault(name, len(new) - 1) for name in names])
