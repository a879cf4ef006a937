"""What the document says of the values of terms, as plainly as it goes, and terms to try it with."""

from functools import lru_cache

from plainly import told
from threescribes.settexts import parse_set
from threescribes.terms import parse_term


def term(text):
    """The tree of a text of a term."""
    return parse_term(text)


# Sets with which many texts have a value, and many texts can be cut in one way, in several ways, or in none.
SETS = [parse_set(text) for text in (".*", ".", "a*b", "a|b|()", "..", ".*b|()", "(ab)*", "a+", "!(a*)", "a*ba*", "(a|ab)")]


@lru_cache(maxsize=None)
def value(tree, letters, text):
    """The value of a term at a text, or None (4.1)."""
    name = tree[0]
    if name == "word":
        return tree[1] if told(tree[2], letters, text) else None
    if name == "copy":
        return text if told(tree[1], letters, text) else None
    if name == "pick":
        return value(tree[2] if told(tree[1], letters, text) else tree[3], letters, text)
    if name == "both":
        return together([value(tree[1], letters, text), value(tree[2], letters, text)])
    if name == "cut":
        cuts = [(text[:k], text[k:]) for k in range(len(text) + 1)]
        pairs = [(value(tree[1], letters, u), value(tree[2], letters, v)) for u, v in cuts]
        found = [pair for pair in pairs if None not in pair]
        return "".join(found[0]) if len(found) == 1 else None
    if name in ("each", "back"):
        found = ways(text, lambda piece: value(tree[1], letters, piece) is not None)
        if len(found) != 1:
            return None
        return together([value(tree[1], letters, piece) for piece in found[0][::1 if name == "each" else -1]])
    if name == "chain":
        found = ways(text, lambda piece: told(tree[1], letters, piece))
        if len(found) != 1:
            return None
        return together([value(tree[2], letters, u + v) for u, v in zip(found[0], found[0][1:])])
    assert name == "then"
    between = value(tree[1], letters, text)
    if between is None or any(sign not in letters for sign in between):
        return None
    return value(tree[2], letters, between)


def together(strings):
    return None if None in strings else "".join(strings)


def ways(text, is_piece):
    """All lists of pieces, none of them empty, that give the text one behind the other (4.3)."""
    if text == "":
        return [[]]
    return [[text[:k]] + rest for k in range(1, len(text) + 1) if is_piece(text[:k]) for rest in ways(text[k:], is_piece)]


def width(tree):
    """The width of a term (5.2)."""
    name = tree[0]
    if name == "word":
        return 0
    if name == "copy":
        return 1
    if name == "pick":
        return max(width(tree[2]), width(tree[3]))
    if name == "both":
        return width(tree[1]) + width(tree[2])
    if name == "cut":
        return max(width(tree[1]), 1 + width(tree[2]))
    if name in ("each", "back"):
        return 1 + width(tree[1])
    if name == "chain":
        return 1 + 2 * width(tree[2])
    return 2 * width(tree[1]) * width(tree[2])
