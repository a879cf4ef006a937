import random
import unittest

from plainly import texts
from plainterms import any_term
from plainvalues import SETS, term
from threescribes.boxes import is_boxes, run_boxes
from threescribes.build import boxes_of, sketch_of
from threescribes.lean import lean
from threescribes.plans import boxes_of_plan, plan_of


class FirstAndOthers:
    """Over "abc": the first letter is a or b and gives x or y, all others are b or c and give x or y likewise.

    The class of a rest is its first letter, or "" or "-" where no text with a value can have this rest.
    """

    letters = "abc"

    def empty(self):
        return ""

    def behind(self, key, k):
        return "-" if key in ("a", "-") else "abc"[k]

    def first(self, key):
        return None if key in ("c", "-") else ("first", ("",))

    def step(self, state, k, key):
        return ("other", ((0, "xy"[k if state == "first" else k - 1]),))

    def end(self, state):
        return (0,)


class Told:
    """Over "ab": what is told at first is the last letter; then come the letters, and boxes that are of no use."""

    letters = "ab"

    def empty(self):
        return ""

    def behind(self, key, k):
        return key or "ab"[k]

    def first(self, key):
        return None if key == "" else (0, (key, "", "", "z"))

    def step(self, state, k, key):
        return ((state + 1) % 2, ((0, "ab"[k]), (2,), (1,), (3, "z")))

    def end(self, state):
        return (0, 1)


class Plans(unittest.TestCase):
    def check(self, plan, value, longest):
        machine = boxes_of_plan(plan)
        self.assertTrue(is_boxes(machine))
        for text in texts(plan.letters, longest):
            self.assertEqual(run_boxes(machine, text), value(text), text)

    def test_states_are_merged_only_if_they_do_the_same_at_the_same_letters(self):
        def value(text):
            if text[:1] == "c" or "a" in text[1:]:
                return None
            return text[:1].replace("a", "x").replace("b", "y") + text[1:].replace("b", "x").replace("c", "y")

        plan = plan_of(FirstAndOthers())
        self.check(plan, value, 5)
        self.check(lean(plan), value, 5)

    def test_what_is_told_at_first_and_boxes_of_no_use(self):
        def value(text):
            return text[-1] + text if text else None

        plan = plan_of(Told())
        self.assertEqual((plan.sizes, len(plan.ahead)), ([4, 4], 3))
        self.check(plan, value, 6)
        found = lean(plan)
        self.assertEqual((found.sizes, len(found.ahead)), ([1], 3))
        self.check(found, value, 6)

    def test_lean_plans_have_the_same_function(self):
        chance = random.Random(100)
        for _ in range(100):
            plan = plan_of(sketch_of(any_term(chance, 3, SETS), "ab"))
            found = lean(plan)
            self.assertLessEqual(len(found.ahead), len(plan.ahead))
            self.assertLessEqual(len(found.sizes), len(plan.sizes))
            machine = boxes_of_plan(plan)
            self.check(found, lambda text: run_boxes(machine, text), 5)

    def test_machines_are_not_larger_than_need_be(self):
        for text, classes, states, boxes in (
                ("copy({.*})", 1, 1, 1), ("both(copy({.*}), copy({.*}))", 1, 1, 2), ("each(copy({.}))", 1, 1, 1),
                ("then(copy({.*}), copy({.*}))", 1, 1, 1), ("then(both(copy({.*}), copy({.*})), both(copy({.*}), copy({.*})))", 1, 1, 4),
                ('word("x", {.*})', 1, 1, 0), ("copy({[]})", 1, 1, 0), ("pick({.*}, copy({.*}), both(copy({.*}), copy({.*})))", 1, 1, 1)):
            machine = boxes_of(term(text), "ab")
            self.assertLessEqual((len(machine[2]), len(machine[5]), machine[3]), (classes, states, boxes), text)
