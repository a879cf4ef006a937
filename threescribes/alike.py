"""Two box machines compared: a paper which shows that they are alike, or the first text at which they part."""

from threescribes.spaces import Images, Space, end_number, has_end, steps_behind, steps_by_pair, vector_of


def alike(one, other):
    """("alike", paper) or ("part", text) for two machines over the same letters."""
    search = Search(one, other)
    level = search.begin()
    while level:
        found = []
        for item in level:
            vector = search.new_vector(item)
            # What goes on from a vector that is written over earlier ones parts only where these part before.
            if vector is not None:
                if search.is_parting(item.node, vector):
                    return ("part", item.text)
                found.extend(search.gone_on(item, vector))
        level = sorted(found, key=lambda other: other.text)
    return ("alike", search.paper())


class Item:
    """A text, a node to which it leads, and a vector whose image by a step is that of the text there.

    The writing of this image goes to a place in a list.
    """

    def __init__(self, text, node, vector, writings, at):
        self.text = text
        self.node = node
        self.vector = vector
        self.writings = writings
        self.at = at


class Found:
    """What has been found at a node: vectors, the space that they make, and for each the writings of its steps."""

    def __init__(self):
        self.space = Space()
        self.vectors = []
        self.steps = []


class Search:
    """The nodes to which texts lead, with vectors there over which all others are written."""

    def __init__(self, one, other):
        self.one = one
        self.other = other
        self.pairs = steps_by_pair(one, other)
        self.images = Images(one, other)
        self.begins = [None] * len(self.pairs)
        self.found = {}

    def begin(self):
        """The items of the empty text."""
        empty = vector_of(("",) * self.one[3]) + vector_of(("",) * self.other[3])
        return [Item("", (0, number, 0, other_number), empty, self.begins, at)
                for at, (number, other_number) in enumerate(self.pairs)]

    def new_vector(self, item):
        """The vector of an item if it is not written over those met before at its node, otherwise None."""
        if item.node not in self.found:
            self.found[item.node] = Found()
        found = self.found[item.node]
        item.writings[item.at] = (item.node, found.space.put(item.vector))
        if found.space.many == len(found.vectors):
            return None
        found.vectors.append(item.vector)
        return item.vector

    def gone_on(self, item, vector):
        """The items with one letter more, behind an item with a new vector."""
        node = item.node
        steps = steps_behind(self.one, self.other, node, self.pairs[(node[1], node[3])])
        writings = [None] * len(steps)
        self.found[node].steps.append(writings)
        return [Item(item.text + self.one[1][step[0]], goal, self.images.behind(node, step, vector), writings, at)
                for at, (step, goal) in enumerate(steps) if goal is not None]

    def is_parting(self, node, vector):
        """Whether the machines part at a text that leads to a node, with a vector, and ends there."""
        state, number, other_state, other_number = node
        if number != 0 or other_number != 0:
            return False
        ends = has_end(self.one, state)
        if ends != has_end(self.other, other_state):
            return True
        if not ends:
            return False
        half = self.images.half
        found = end_number(vector[:half], self.one[5][state])
        return found != end_number(vector[half:], self.other[5][other_state])

    def paper(self):
        """The paper of all nodes and vectors that have been met."""
        nodes = []
        for node in sorted(self.found):
            found = self.found[node]
            steps = [tuple([self.whole(met) for met in writings]) for writings in found.steps]
            nodes.append((node, tuple(found.vectors), tuple(steps)))
        return (tuple([self.whole(met) for met in self.begins]), tuple(nodes))

    def whole(self, met):
        """A writing over all vectors at a node, of a pair of the node and the writing over those that came first."""
        if met is None:
            return None
        node, (times, parts) = met
        return (times, parts + (0,) * (len(self.found[node].vectors) - len(parts)))
