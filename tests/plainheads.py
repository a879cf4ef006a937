"""Heads to try things with: told by what they do at each number, whatever the classes."""

SIGNS = "abcdef"


def head(letters, states, behind=None, ahead=None):
    """A head of one dict for each state: its moves by the letters, "<" for the left mark and ">" for the right one.

    A move is (state, step, string), None, or a function of the left class and the right class that gives one.
    """
    lefts = behind or ((0,) * len(letters),)
    rights = ahead or ((0,) * len(letters),)

    def moves(found):
        return tuple(tuple(found(left, right) if callable(found) else found for right in range(len(rights)))
                     for left in range(len(lefts)))

    return ("head", letters, lefts, rights, tuple(tuple(moves(state.get(sign)) for sign in letters + "<>") for state in states))


def same(letters, move):
    """The same move at each letter, which writes the letter for None."""
    return {sign: (move[0], move[1], sign if move[2] is None else move[2]) for sign in letters}


# The text, as it is.
COPY = head("ab", [{**same("ab", (0, 1, None)), "<": (0, 1, ""), ">": (0, 1, "")}])
# The text from behind: to the right mark, back, and once more to the right.
TURNED = head("ab", [{**same("ab", (0, 1, "")), "<": (0, 1, "x"), ">": (1, -1, "")},
                     {**same("ab", (1, -1, None)), "<": (2, 1, "y")},
                     {**same("ab", (2, 1, "")), ">": (0, 1, "z")}])
# The text three times, with strings at the marks.
THRICE = head("abc", [{**same("abc", (0, 1, None)), "<": (0, 1, "l"), ">": (1, -1, "r")},
                      {**same("abc", (1, -1, "")), "<": (2, 1, "m")},
                      {**same("abc", (2, 1, None)), ">": (3, -1, "s")},
                      {**same("abc", (3, -1, "")), "<": (4, 1, "")},
                      {**same("abc", (4, 1, None)), ">": (0, 1, "t")}])
# It turns at each b, and goes back to the one before or to the left mark, to write what is between once more.
AT_LETTERS = head("ab", [{"a": (0, 1, "a"), "b": (1, -1, "b"), "<": (0, 1, ""), ">": (0, 1, "")},
                         {"a": (1, -1, ""), "b": (2, 1, "x"), "<": (2, 1, "y")},
                         {"a": (2, 1, "c"), "b": (0, 1, "")}])
# It goes to and fro without end where two letters a stand side by side.
ENDLESS = head("ab", [{"a": (1, 1, "a"), "b": (0, 1, "b"), "<": (0, 1, ""), ">": (0, 1, "")},
                      {"a": (2, -1, ""), "b": (0, 1, "b"), ">": (0, 1, "e")},
                      {"a": (1, 1, "a")}])
# There is no move at a c, nor at the right mark behind a b.
STOPS = head("abc", [{"a": (0, 1, "a"), "b": (1, 1, "b"), "<": (0, 1, ""), ">": (0, 1, "")},
                     {"a": (0, 1, "x"), "b": (1, 1, "y")}])
# The left class is that of the last letter, the right class that of the next one: both are written at all places.
LAST = ((1, 2), (1, 2), (1, 2))
SIDES = head("ab", [{sign: (lambda l, r: (0, 1, "nab"[l] + "nab"[r])) for sign in "ab<>"}], LAST, LAST)
# Going to the left from the right mark it writes the left class, which is that of the letters a modulo 3.
MODULO = ((1, 0), (2, 1), (0, 2))
COUNTS = head("ab", [{**same("ab", (0, 1, "")), "<": (0, 1, ""), ">": lambda l, r: (1, -1, "xyz"[l])},
                     {"a": lambda l, r: (1, -1, "xyz"[l]), "b": lambda l, r: (1, -1, "uvw"[l]), "<": (2, 1, "")},
                     {**same("ab", (2, 1, "")), ">": (0, 1, "")}], MODULO)
# Going to the right it writes the right class, by the same machine from the other side; with it, it turns at a b.
COUNTS_RIGHT = head("ab", [{"a": lambda l, r: (0, 1, "xyz"[r]), "b": lambda l, r: (0, 1, "uvw"[r]),
                            "<": lambda l, r: (0, 1, "pqr"[r]), ">": (0, 1, "")}], None, MODULO)
TURNS_RIGHT = head("ab", [{"a": lambda l, r: (0, 1, "xyz"[r]), "b": lambda l, r: (r % 2, 1 - r % 2 * 2, "uvw"[r]),
                           "<": lambda l, r: (0, 1, "pqr"[r]), ">": (0, 1, "")},
                          {"a": lambda l, r: (2, 1, "xyz"[r]), "b": lambda l, r: (2, 1, "uvw"[r]), "<": (2, 1, "m")},
                          {"a": lambda l, r: (0, 1, "xyz"[r]), "b": lambda l, r: (0, 1, "uvw"[r])}], None, MODULO)
# Several classes come to the same by a letter: after a b all do, after an a two of them.
COMES_TO_ONE = ((1, 0, 2), (2, 0, 0), (2, 0, 1))
BOTH_WAYS = head("abc", [{**same("abc", (0, 1, "")), "<": (0, 1, ""), ">": lambda l, r: (1, -1, "xyz"[l])},
                         {sign: (lambda l, r: (1, -1, "xyz"[l] + "uvw"[r])) for sign in "abc"} | {"<": lambda l, r: (2, 1, "uvw"[r])},
                         {sign: (lambda l, r: (2, 1, "xyz"[l] + "uvw"[r])) for sign in "abc"} | {">": (0, 1, "")}],
                 COMES_TO_ONE, COMES_TO_ONE)
# Where the left mark asks for the class of the whole text: only texts with an even number of letters have a value.
EVEN = head("a", [{"a": (0, 1, "x"), "<": lambda l, r: None if r else (0, 1, "e"), ">": lambda l, r: None if l else (0, 1, "f")}],
            ((1,), (0,)), ((1,), (0,)))
NEVER = head("ab", [{}])
# Two states do the same at a b, but for the step: one goes back to the first letter, the other one goes on.
TO_AND_FRO = head("ab", [{"<": (0, 1, ""), "a": (1, 1, ""), "b": (2, 1, ""), ">": (0, 1, "e")},
                         {"b": (3, -1, "")},
                         {"b": (3, 1, "")},
                         {"a": (4, 1, "p"), "b": (4, 1, "q"), ">": (4, 1, "r")},
                         {**same("ab", (4, 1, None)), ">": (0, 1, "s")}])

NAMED = (COPY, TURNED, THRICE, AT_LETTERS, ENDLESS, STOPS, SIDES, COUNTS, COUNTS_RIGHT, TURNS_RIGHT, BOTH_WAYS, EVEN, NEVER, TO_AND_FRO)
