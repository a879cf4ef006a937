"""Box machines one behind the other."""

from threescribes.behind import AfterSketch
from threescribes.lean import lean
from threescribes.plans import boxes_of_plan, plan_of, plan_of_boxes
from threescribes.smaller import smaller


def after(first, second):
    """A box machine with the values of the second machine at the values of the first one."""
    one = lean(plan_of_boxes(smaller(first)))
    other = lean(plan_of_boxes(smaller(second)))
    return smaller(boxes_of_plan(lean(plan_of(AfterSketch(one, other)))))
