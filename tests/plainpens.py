"""What the document says of pens and their forks (part 13), as plainly as it goes, and pens to try it with."""

from plainboxes import any_classes, class_of, run


def written(pen, state, text, rest_class):
    """What a pen writes from a state, with a rest of a class behind, and the state behind it; or None if it stops."""
    _, letters, ahead, _, rows, _ = pen
    string = ""
    for place, sign in enumerate(text):
        number = rest_class
        for later in reversed(text[place + 1:]):
            number = ahead[number][letters.index(later)]
        entry = rows[state][letters.index(sign)][number]
        if entry is None:
            return None
        state = entry[0]
        string += "".join(entry[1][0][1:])
    return state, string


def is_fork(pen, fork):
    """Whether four strings are a fork (13.3)."""
    u, v, x, y = fork
    _, letters, ahead, _, _, _ = pen
    c, d = class_of(ahead, letters, x), class_of(ahead, letters, y)
    if class_of(ahead, letters, v + x) != c or class_of(ahead, letters, v + y) != d:
        return False
    told = []
    for number in (c, d):
        begun = written(pen, 0, u, number)
        if begun is None:
            return False
        again = written(pen, begun[0], v, number)
        if again is None or again[0] != begun[0]:
            return False
        told.append((begun[1], again[1]))
    if run(pen, u + x) is None or run(pen, u + y) is None:
        return False
    (r, s), (other_r, other_s) = told
    if len(s) != len(other_s):
        return True
    long = 10 * (len(r) + len(other_r) + len(s) + 1)
    return s != "" and (r + s * long)[:long] != (other_r + other_s * long)[:long]


def any_pen(chance, letters, states, classes, words, stop=0.0, endless=0.0):
    """Some pen."""
    def row():
        word = chance.choice(words)
        return (0, word) if word else (0,)

    rows = tuple(tuple(tuple(None if chance.random() < stop else (chance.randrange(states), (row(),)) for _ in range(classes))
                       for _ in letters) for _ in range(states))
    ends = tuple(None if chance.random() < endless else row() for _ in range(states))
    return ("boxes", letters, any_classes(chance, letters, classes), 1, rows, ends)
