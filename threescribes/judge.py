"""The checker of papers, which show that two box machines are alike. It only multiplies, adds and compares."""

from threescribes.checks import is_tuple
from threescribes.spaces import Images, end_number, has_end, steps_behind, steps_by_pair, vector_of


def takes(one, other, paper):
    """Whether a paper is taken for two machines over the same letters."""
    return Judge(one, other).is_taken(paper)


class Judge:
    """The checker for two machines."""

    def __init__(self, one, other):
        self.one = one
        self.other = other
        self.pairs = steps_by_pair(one, other)
        self.images = Images(one, other)
        self.first_vector = vector_of(("",) * one[3]) + vector_of(("",) * other[3])

    def is_taken(self, paper):
        """Whether a paper is taken."""
        if not is_tuple(paper, 2) or not isinstance(paper[1], tuple):
            return False
        begins, nodes = paper
        if not all([is_tuple(entry, 3) and self.is_node(entry[0]) and self.are_vectors(entry[1]) for entry in nodes]):
            return False
        names = [entry[0] for entry in nodes]
        if not all([name < behind for name, behind in zip(names, names[1:])]):
            return False
        vectors = {entry[0]: entry[1] for entry in nodes}
        return self.are_begins(begins, vectors) and all([self.is_kept(entry, vectors) for entry in nodes])

    def is_node(self, thing):
        """Whether a thing is a node."""
        if not is_tuple(thing, 4) or not all([is_integer(member) for member in thing]):
            return False
        state, number, other_state, other_number = thing
        if not -1 <= state < len(self.one[5]) or not -1 <= other_state < len(self.other[5]):
            return False
        return (number, other_number) in self.pairs and (state, other_state) != (-1, -1)

    def are_vectors(self, thing):
        """Whether a thing is a tuple of tuples of integers, each as long as the vectors are."""
        return isinstance(thing, tuple) and all([is_tuple(vector, len(self.first_vector)) and are_integers(vector)
                                                 for vector in thing])

    def are_begins(self, thing, vectors):
        """Whether a thing has for each class pair a writing of the vector of empty boxes, at a node that is there."""
        if not is_tuple(thing, len(self.pairs)):
            return False
        for writing, (number, other_number) in zip(thing, self.pairs):
            node = (0, number, 0, other_number)
            if node not in vectors or not writes(writing, vectors[node], self.first_vector):
                return False
        return True

    def is_kept(self, entry, vectors):
        """Whether all that is asked holds at a node of the paper."""
        node, here, steps = entry
        if not is_tuple(steps, len(here)) or not all([self.is_level(node, vector) for vector in here]):
            return False
        if self.is_parting(node):
            return False
        behind = steps_behind(self.one, self.other, node, self.pairs[(node[1], node[3])])
        return all([self.are_writings(node, vector, writings, behind, vectors)
                    for vector, writings in zip(here, steps)])

    def are_writings(self, node, vector, thing, behind, vectors):
        """Whether a thing has a writing for each step of a node, of the image of a vector, or None."""
        if not is_tuple(thing, len(behind)):
            return False
        for writing, (step, goal) in zip(thing, behind):
            if goal is None:
                if writing is not None:
                    return False
            elif goal not in vectors:
                return False
            elif not writes(writing, vectors[goal], self.images.behind(node, step, vector)):
                return False
        return True

    def is_parting(self, node):
        """Whether just one machine ends at a node."""
        at_end = node[1] == 0 and node[3] == 0
        return at_end and has_end(self.one, node[0]) != has_end(self.other, node[2])

    def is_level(self, node, vector):
        """Whether a vector is level, if both machines end at a node."""
        if (node[1], node[3]) != (0, 0) or not has_end(self.one, node[0]) or not has_end(self.other, node[2]):
            return True
        half = self.images.half
        found = end_number(vector[:half], self.one[5][node[0]])
        return found == end_number(vector[half:], self.other[5][node[2]])


def is_integer(thing):
    """Whether a thing is an integer. True and False are none."""
    return isinstance(thing, int) and not isinstance(thing, bool)


def are_integers(thing):
    """Whether a thing is a tuple of integers."""
    return isinstance(thing, tuple) and all([is_integer(member) for member in thing])


def writes(thing, vectors, vector):
    """Whether a thing is a writing of a vector over some vectors."""
    if not is_tuple(thing, 2) or not is_integer(thing[0]) or thing[0] < 1:
        return False
    times, parts = thing
    if not are_integers(parts) or len(parts) != len(vectors):
        return False
    total = [times * member for member in vector]
    for part, other in zip(parts, vectors):
        if part != 0:
            total = [member - part * more for member, more in zip(total, other)]
    return not any(total)
