"""Two terms compared."""

from threescribes.alike import alike
from threescribes.boxes import run_boxes
from threescribes.build import boxes_of
from threescribes.judge import takes
from threescribes.terms import parse_term


def tell(letters, one, other):
    """What there is to tell of two texts of terms: that they are alike, or the first text at which they are not."""
    first_tree = parse_term(one)
    second_tree = parse_term(other)
    first = boxes_of(first_tree, letters)
    second = boxes_of(second_tree, letters)
    kind, found = alike(first, second)
    if kind == "alike":
        assert takes(first, second, found)
        return "alike"
    one_value = quoted(run_boxes(first, found))
    other_value = quoted(run_boxes(second, found))
    return f"text {quoted(found)}\none {one_value}\nother {other_value}"


def quoted(value):
    """A value in double quotes, or none for None."""
    return "none" if value is None else '"' + value + '"'
