"""Set trees and set texts: sets of texts as trees, and trees as texts."""

from threescribes.checks import is_small
from threescribes.errors import BadSign, Unexpected
from threescribes.sets import all_texts, empty_text, join, less, no_texts, one_letter, plus, row, star

SIGNS = ".()[]|*+?!"
SIGN_OF = {"any": ".", "nothing": "()", "never": "[]", "star": "*", "plus": "+", "maybe": "?"}
REPEAT_OF = {"*": "star", "+": "plus", "?": "maybe"}


def set_of(tree, letters):
    """The least set machine of a tree over the letters."""
    made = []
    # Trees of long texts are nested deeply, so this goes through them without recursion.
    for node in parts_first(tree):
        many = len(parts_of(node))
        below = [made.pop() for _ in range(many)]
        made.append(set_of_node(node, below[::-1], letters))
    return made[0]


def parts_of(node):
    """The trees that a tree consists of."""
    return () if node[0] == "letter" else node[1:]


def parts_first(tree):
    """The list of a tree and all trees in it, each one behind its parts, the first part first."""
    nodes = []
    waiting = [tree]
    while waiting:
        node = waiting.pop()
        nodes.append(node)
        waiting.extend(parts_of(node))
    return nodes[::-1]


def set_of_node(node, below, letters):
    """The set machine of a tree, of which those of its parts are given."""
    name = node[0]
    if name == "letter":
        return one_letter(letters, node[1])
    if name == "any":
        return one_letter(letters, letters)
    if name == "nothing":
        return empty_text(letters)
    if name == "never":
        return no_texts(letters)
    if name == "or":
        return join(below[0], below[1])
    if name == "row":
        return row(below[0], below[1])
    if name == "star":
        return star(below[0])
    if name == "plus":
        return plus(below[0])
    if name == "maybe":
        return join(below[0], empty_text(letters))
    return less(all_texts(letters), below[0])


def print_set(tree):
    """The text of a tree."""
    written = []
    waiting = [tree]
    while waiting:
        piece = waiting.pop()
        if isinstance(piece, str):
            written.append(piece)
        else:
            waiting.extend(pieces_of(piece)[::-1])
    return "".join(written)


def pieces_of(tree):
    """The list of the strings and trees that are written, one behind the other, for a tree."""
    name = tree[0]
    if name == "letter":
        return [tree[1]]
    if name == "or":
        return [tree[1], "|"] + enclosed(tree[2], ("or",))
    if name == "row":
        return enclosed(tree[1], ("or",)) + enclosed(tree[2], ("or", "row"))
    if name == "not":
        return ["!"] + enclosed(tree[1], ("or", "row"))
    if len(tree) == 1:
        return [SIGN_OF[name]]
    return enclosed(tree[1], ("or", "row", "not")) + [SIGN_OF[name]]


def enclosed(tree, names):
    """The list of what is written for a part: with parentheses if its name is one of these."""
    return ["(", tree, ")"] if tree[0] in names else [tree]


class Level:
    """What has been read of a set text within a pair of parentheses, or outside of all."""

    def __init__(self):
        self.rows = None
        self.parts = None
        self.nots = 0
        self.part = None

    def end_part(self):
        """Puts the part that has been read, with the signs ! ahead of it, behind its row."""
        tree = self.part
        for _ in range(self.nots):
            tree = ("not", tree)
        self.parts = tree if self.parts is None else ("row", self.parts, tree)
        self.nots = 0
        self.part = None

    def end_row(self):
        """Puts the row that has been read behind the rows ahead of it."""
        self.end_part()
        self.rows = self.parts if self.rows is None else ("or", self.rows, self.parts)
        self.parts = None


def parse_set(text):
    """The tree of a set text."""
    for place, sign in enumerate(text):
        if not is_small(sign) and sign not in SIGNS:
            raise BadSign(place)
    # One level for each parenthesis that is open, and one for the whole text.
    levels = [Level()]
    place = 0
    while place < len(text):
        place = read_token(levels, text, place)
    # While a parenthesis is open, the part that it will make is missing outside of it.
    if levels[0].part is None:
        raise Unexpected(len(text))
    levels[0].end_row()
    return levels[0].rows


def read_token(levels, text, place):
    """Reads what stands at a place into the levels, and returns the place behind it."""
    sign = text[place]
    if sign in "|)" or sign in REPEAT_OF:
        read_behind_part(levels, sign, place)
        return place + 1
    level = levels[-1]
    if level.part is not None:
        level.end_part()
    pair = text[place:place + 2]
    if pair == "()" or pair == "[]":
        level.part = ("nothing",) if sign == "(" else ("never",)
        return place + 2
    if sign == "[" or sign == "]":
        raise Unexpected(place if sign == "]" else place + 1)
    if sign == "!":
        level.nots += 1
    elif sign == "(":
        levels.append(Level())
    else:
        level.part = ("any",) if sign == "." else ("letter", sign)
    return place + 1


def read_behind_part(levels, sign, place):
    """Reads one of the signs that stand only behind a part."""
    level = levels[-1]
    if level.part is None or (sign == ")" and len(levels) == 1):
        raise Unexpected(place)
    if sign == "|":
        level.end_row()
    elif sign == ")":
        level.end_row()
        levels.pop()
        levels[-1].part = level.rows
    else:
        level.part = (REPEAT_OF[sign], level.part)
