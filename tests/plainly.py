"""What the document says of sets, written down as plainly as it goes, to hold the program against it."""

from functools import lru_cache
from itertools import product


def texts(letters, longest):
    """All texts up to a length, the first ones first."""
    return ["".join(word) for many in range(longest + 1) for word in product(letters, repeat=many)]


def read(machine, text):
    """Whether a text over the letters is in the set of a machine (1.2)."""
    _, letters, goals, ends = machine
    state = 0
    for sign in text:
        state = goals[state][letters.index(sign)]
    return ends[state]


@lru_cache(maxsize=None)
def told(tree, letters, text):
    """Whether a text over the letters is in the set of a tree (1.6)."""
    name = tree[0]
    if name == "letter":
        return text == tree[1] and text in letters
    if name == "any":
        return len(text) == 1
    if name == "nothing":
        return text == ""
    if name == "never":
        return False
    if name == "or":
        return told(tree[1], letters, text) or told(tree[2], letters, text)
    if name == "row":
        return any(told(tree[1], letters, text[:k]) and told(tree[2], letters, text[k:])
                   for k in range(len(text) + 1))
    if name == "not":
        return not told(tree[1], letters, text)
    if name == "maybe":
        return text == "" or told(tree[1], letters, text)
    if name == "plus":
        return told(tree[1], letters, text) or repeated(tree[1], letters, text)
    assert name == "star"
    return text == "" or repeated(tree[1], letters, text)


def repeated(tree, letters, text):
    """Whether a text is a row of one or more texts of the tree that are not empty."""
    return text != "" and any(
        told(tree, letters, text[:k]) and (k == len(text) or repeated(tree, letters, text[k:]))
        for k in range(1, len(text) + 1))


def numbered_as_met(machine):
    """Whether all states are met, and numbered in the order in which they are met (1.3)."""
    goals = machine[2]
    met = [0]
    for state in range(len(goals)):
        if state >= len(met):
            return False
        for goal in goals[state]:
            if goal not in met:
                met.append(goal)
    return met == list(range(len(goals)))


def parted(machine, one, other):
    """Whether some text tells two states of a machine apart."""
    _, _, goals, ends = machine
    seen = {(one, other)}
    waiting = [(one, other)]
    while waiting:
        p, q = waiting.pop()
        if ends[p] != ends[q]:
            return True
        for pair in zip(goals[p], goals[q]):
            if pair not in seen:
                seen.add(pair)
                waiting.append(pair)
    return False


def is_least(machine):
    """Whether a machine is least, with its states numbered in order (1.3)."""
    many = len(machine[2])
    apart = all(parted(machine, p, q) for p in range(many) for q in range(p))
    return numbered_as_met(machine) and apart


def any_machine(chance, letters, many):
    """Some machine with so many states."""
    goals = tuple(tuple(chance.randrange(many) for _ in letters) for _ in range(many))
    return ("set", letters, goals, tuple(chance.random() < 0.4 for _ in range(many)))


LEAVES = (("letter", "a"), ("letter", "b"), ("letter", "c"), ("any",), ("nothing",), ("never",))
UNARY = ("star", "plus", "maybe", "not")
BINARY = ("or", "row")


def any_tree(chance, deep):
    """Some tree that is nested so deep at most."""
    if deep <= 1 or chance.random() < 0.15:
        return chance.choice(LEAVES)
    if chance.random() < 0.5:
        return (chance.choice(UNARY), any_tree(chance, deep - 1))
    return (chance.choice(BINARY), any_tree(chance, deep - 1), any_tree(chance, deep - 1))


def deep_tree(chance, deep):
    """Some tree that is nested exactly so deep, with small trees beside the deepest one."""
    tree = chance.choice(LEAVES)
    for _ in range(deep - 1):
        kind = chance.choice(UNARY + BINARY)
        if kind in UNARY:
            tree = (kind, tree)
        elif chance.random() < 0.5:
            tree = (kind, tree, chance.choice(LEAVES))
        else:
            tree = (kind, chance.choice(LEAVES), tree)
    return tree


def nested(tree):
    """How deep a tree is nested."""
    parts = () if tree[0] == "letter" else tree[1:]
    return 1 + max([nested(part) for part in parts], default=0)


# The grammar of 1.7, each function giving all trees of which a text is the set text.


@lru_cache(maxsize=None)
def eithers(text):
    found = list(rows(text))
    for k, sign in enumerate(text):
        if sign == "|":
            found += [("or", a, b) for a in eithers(text[:k]) for b in rows(text[k + 1:])]
    return found


@lru_cache(maxsize=None)
def rows(text):
    found = list(parts(text))
    for k in range(1, len(text)):
        found += [("row", a, b) for a in rows(text[:k]) for b in parts(text[k:])]
    return found


@lru_cache(maxsize=None)
def parts(text):
    found = list(atoms(text))
    if text[:1] == "!":
        found += [("not", a) for a in parts(text[1:])]
    return found


@lru_cache(maxsize=None)
def atoms(text):
    """The trees of an atom with signs of repetition behind it."""
    found = []
    if len(text) == 1 and "a" <= text <= "z":
        found.append(("letter", text))
    if text in (".", "()", "[]"):
        found.append({".": ("any",), "()": ("nothing",), "[]": ("never",)}[text])
    if text[:1] == "(" and text[-1:] == ")":
        found += eithers(text[1:-1])
    if text[-1:] in ("*", "+", "?"):
        found += [({"*": "star", "+": "plus", "?": "maybe"}[text[-1]], a) for a in atoms(text[:-1])]
    return found


def can_begin(text):
    """Whether a set text can begin as this text does.

    A set text that begins so can be ended soon: by at most one sign that ends a part, and parentheses.
    """
    return any(eithers(text + sign + ")" * many) for sign in ("", "a", "]") for many in range(len(text) + 1))


def first_wrong(text):
    """The place of 1.9 at which a text that is no set text is unexpected."""
    for place in range(len(text)):
        if not can_begin(text[:place + 1]):
            return place
    return len(text)
