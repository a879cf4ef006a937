"""Box machines one behind the other."""

from threescribes.lean import lean
from threescribes.plans import machine_of_plan, plan_of_boxes
from threescribes.smaller import smaller
from threescribes.weave import woven


def after(first, second):
    """A box machine with the values of the second machine at the values of the first one."""
    one = lean(plan_of_boxes(smaller(first)))
    other = lean(plan_of_boxes(smaller(second)))
    return machine_of_plan(woven(one, other))
