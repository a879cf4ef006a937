"""What the document says of box machines and heads, as plainly as it goes, and machines to try it with."""

from plainly import texts

WORDS = ("a", "b", "x", "ab", "zz")


def class_of(ahead, letters, rest):
    """The class of a rest (2.1)."""
    if rest == "":
        return 0
    return ahead[class_of(ahead, letters, rest[1:])][letters.index(rest[0])]


def put(row, contents):
    return "".join(item if isinstance(item, str) else contents[item] for item in row)


def run(boxes, text):
    """The value at a text, or None (2.3)."""
    _, letters, ahead, many, rows, ends = boxes
    state, contents = 0, [""] * many
    for place, sign in enumerate(text):
        entry = rows[state][letters.index(sign)][class_of(ahead, letters, text[place + 1:])]
        if entry is None:
            return None
        state, contents = entry[0], [put(row, contents) for row in entry[1]]
    return None if ends[state] is None else put(ends[state], contents)


def values(machine, runs, longest):
    """The values at all texts up to a length."""
    return {text: runs(machine, text) for text in texts(machine[1], longest)}


def any_classes(chance, letters, many):
    return tuple(tuple(chance.randrange(many) for _ in letters) for _ in range(many))


def any_row(chance, boxes):
    """Some row of just these boxes, with some strings around them."""
    row = []
    for box in boxes:
        if chance.random() < 0.4:
            row.append(chance.choice(WORDS))
        row.append(box)
    if chance.random() < 0.4:
        row.append(chance.choice(WORDS))
    return tuple(row)


def some_of(chance, many, loss):
    """Some of the boxes in some order."""
    boxes = [box for box in range(many) if chance.random() >= loss]
    chance.shuffle(boxes)
    return boxes


def any_news(chance, many, loss=0.15):
    """Some news for so many boxes: each box in one of the rows, or in none."""
    places = [[] for _ in range(many)]
    for box in some_of(chance, many, loss):
        chance.choice(places).append(box)
    return tuple(any_row(chance, boxes) for boxes in places)


def any_boxes(chance, letters, states, classes, many, stop=0.15, endless=0.3, loss=0.15):
    """Some right box machine."""
    rows = tuple(tuple(tuple(None if chance.random() < stop else (chance.randrange(states), any_news(chance, many, loss))
                             for _ in range(classes)) for _ in letters) for _ in range(states))
    ends = tuple(None if chance.random() < endless else any_row(chance, some_of(chance, many, 0.2))
                 for _ in range(states))
    return ("boxes", letters, any_classes(chance, letters, classes), many, rows, ends)


def some_boxes(chance, letters=("a", "ab", "abc", "bx")):
    """Some right box machine, of a size drawn as well."""
    return any_boxes(chance, chance.choice(letters), chance.randrange(1, 5), chance.randrange(1, 4),
                     chance.randrange(4), chance.choice((0, 0.1, 0.3)), chance.choice((0, 0.3, 0.6)))


def walk(head, text):
    """The value of a head at a text, or None (3.3)."""
    _, letters, behind, ahead, moves = head

    def left_class(beginning):
        return 0 if beginning == "" else behind[left_class(beginning[:-1])][letters.index(beginning[-1])]

    place, state, written, seen = 0, 0, "", []
    while (place, state) not in seen:
        seen.append((place, state))
        number = len(letters) + (place > 0) if place in (0, len(text) + 1) else letters.index(text[place - 1])
        left, right = text[:max(place - 1, 0)], text[place:]
        move = moves[state][number][left_class(left)][class_of(ahead, letters, right)]
        if move is None:
            return None
        written += move[2]
        if move[1] == 1 and place == len(text) + 1:
            return written
        state, place = move[0], place + move[1]
    return None


def any_head(chance, letters, states, lefts, rights, stop=0.1):
    """Some right head."""
    def move(number):
        if chance.random() < stop:
            return None
        step = 1 if number == len(letters) else chance.choice((1, 1, -1))
        return (chance.randrange(states), step, chance.choice(("", "") + WORDS))

    moves = tuple(tuple(tuple(tuple(move(number) for _ in range(rights)) for _ in range(lefts))
                        for number in range(len(letters) + 2)) for _ in range(states))
    return ("head", letters, any_classes(chance, letters, lefts), any_classes(chance, letters, rights), moves)
