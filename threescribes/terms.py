"""Terms: functions of texts, told by trees, and the texts of these trees."""

from threescribes.checks import is_small
from threescribes.errors import BadSign, Unexpected
from threescribes.settexts import SIGNS, parse_set, print_set

ARGUMENTS = {
    "word": ("string", "set"),
    "copy": ("set",),
    "pick": ("set", "term", "term"),
    "both": ("term", "term"),
    "cut": ("term", "term"),
    "each": ("term",),
    "back": ("term",),
    "chain": ("set", "term"),
    "then": ("term", "term"),
}


def print_term(tree):
    """The text of a tree."""
    written = []
    waiting = [tree]
    while waiting:
        piece = waiting.pop()
        if isinstance(piece, str):
            written.append(piece)
        else:
            waiting.extend(pieces_of_term(piece)[::-1])
    return "".join(written)


def pieces_of_term(tree):
    """The list of the strings and trees that are written, one behind the other, for a tree."""
    pieces = [tree[0] + "("]
    for kind, argument in zip(ARGUMENTS[tree[0]], tree[1:]):
        if len(pieces) > 1:
            pieces.append(", ")
        if kind == "string":
            pieces.append('"' + argument + '"')
        elif kind == "set":
            pieces.append("{" + print_set(argument) + "}")
        else:
            pieces.append(argument)
    return pieces + [")"]


def parse_term(text):
    """The tree of a text."""
    for place, sign in enumerate(text):
        if not is_small(sign) and sign not in ' "(),{}' + SIGNS:
            raise BadSign(place)
    reader = Reader(text)
    # The terms that are open, each a list of its name and of its arguments so far.
    opened = [reader.read_begin()]
    tree = None
    while opened:
        kind = ARGUMENTS[opened[-1][0]][len(opened[-1]) - 1]
        if kind == "term":
            opened.append(reader.read_begin())
            continue
        opened[-1].append(reader.read_string() if kind == "string" else reader.read_set())
        tree = close_terms(reader, opened)
    reader.read_end()
    return tree


def close_terms(reader, opened):
    """Reads what stands behind an argument, and returns the last term that ends with it, or None.

    A term that ends is taken out of the open ones and is an argument of the one that is open then.
    """
    tree = None
    while opened:
        if len(opened[-1]) <= len(ARGUMENTS[opened[-1][0]]):
            reader.read_sign(",")
            return tree
        reader.read_sign(")")
        tree = tuple(opened.pop())
        if opened:
            opened[-1].append(tree)
    return tree


class Reader:
    """A text of a term, read token by token."""

    def __init__(self, text):
        self.text = text
        self.place = 0

    def skip_spaces(self):
        """Goes on to what stands behind the spaces."""
        while self.text[self.place:self.place + 1] == " ":
            self.place += 1

    def read_sign(self, sign):
        """Reads a token of one sign, or the first sign of a token."""
        self.skip_spaces()
        self.need(sign)

    def need(self, sign):
        """Reads a sign that stands at the very place."""
        if self.text[self.place:self.place + 1] != sign:
            raise Unexpected(self.place)
        self.place += 1

    def read_begin(self):
        """Reads a name with its parenthesis, and returns a list of this name."""
        self.skip_spaces()
        names = list(ARGUMENTS)
        many = 0
        # No name begins with another one, so only one name is left when the first one left is whole.
        while many < len(names[0]):
            sign = self.text[self.place:self.place + 1]
            names = [name for name in names if name[many:many + 1] == sign]
            if len(names) == 0:
                raise Unexpected(self.place)
            self.place += 1
            many += 1
        self.read_sign("(")
        return [names[0]]

    def read_string(self):
        """Reads a string."""
        self.read_sign('"')
        begin = self.place
        while is_small(self.text[self.place:self.place + 1]):
            self.place += 1
        self.need('"')
        return self.text[begin:self.place - 1]

    def read_set(self):
        """Reads a set in its braces, and returns the set tree."""
        self.read_sign("{")
        begin = self.place
        sign = self.text[begin:begin + 1]
        while is_small(sign) or (sign != "" and sign in SIGNS):
            self.place += 1
            sign = self.text[self.place:self.place + 1]
        try:
            tree = parse_set(self.text[begin:self.place])
        except Unexpected as wrong:
            raise Unexpected(begin + wrong.place) from wrong
        self.need("}")
        return tree

    def read_end(self):
        """Reads the spaces at the end of the text."""
        self.skip_spaces()
        if self.place < len(self.text):
            raise Unexpected(self.place)
