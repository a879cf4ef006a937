"""Rows of boxes and strings: what a box is given, or the value at an end."""


def joined(items):
    """The row of some strings and boxes: no string is empty, and none stands beside another one."""
    row = []
    for item in items:
        if isinstance(item, str) and row and isinstance(row[-1], str):
            row[-1] += item
        elif item != "":
            row.append(item)
    return tuple(row)


def filled(row, contents):
    """The row with a row in the place of each box, from a list or dict of rows."""
    items = []
    for item in row:
        if isinstance(item, str):
            items.append(item)
        else:
            items.extend(contents[item])
    return joined(items)


def shifted(row, many):
    """The row with the number of each box greater by so many."""
    return tuple([item if isinstance(item, str) else item + many for item in row])


def all_shifted(news, many):
    """Some rows with the number of each box greater by so many."""
    return tuple([shifted(row, many) for row in news])


def told(contents):
    """The rows of some strings, one for each."""
    return tuple([joined([string]) for string in contents])


def boxes_in(row):
    """The boxes of a row."""
    return [item for item in row if not isinstance(item, str)]
