import random
import unittest

from plainboxes import any_boxes, run, some_boxes
from plainly import any_machine, is_least, read, texts
from plainvalues import term
from threescribes.boxes import domain_of
from threescribes.build import boxes_of
from threescribes.into import first_outside, led_into
from threescribes.sets import least
from threescribes.settexts import parse_set, set_of

EXAMPLE = ("boxes", "ab", ((0, 0),), 1, ((((0, ((0, "x"),)),), ((0, (("y", 0),)),)),), ((0,),))


def in_set(machine, value):
    """Whether a value is in the set; none is that has a letter which the set does not have (11.1)."""
    return value is not None and all(sign in machine[1] for sign in value) and read(machine, value)


def the_set(text, letters):
    return set_of(parse_set(text), letters)


class Into(unittest.TestCase):
    def check(self, boxes, machine, longest=None):
        longest = longest or {1: 9, 2: 6, 3: 4}[len(boxes[1])]
        found = led_into(boxes, machine)
        self.assertEqual(found[1], boxes[1])
        self.assertTrue(is_least(found) if len(found[2]) < 12 else found == least(found))
        outside = []
        many = 0
        for text in texts(boxes[1], longest):
            value = run(boxes, text)
            self.assertIs(read(found, text), in_set(machine, value), (boxes, machine, text))
            many += read(found, text)
            if value is not None and not in_set(machine, value):
                outside.append(text)
        first = first_outside(boxes, machine)
        if outside:
            self.assertEqual(first, outside[0])
        elif first is None:
            self.assertEqual(found, domain_of(boxes))
        else:
            self.assertGreater(len(first), longest)
            self.assertIsNotNone(run(boxes, first))
            self.assertFalse(in_set(machine, run(boxes, first)))
        return first, many

    def test_the_examples(self):
        self.assertIsNone(self.check(EXAMPLE, the_set("y*x*", "xy"))[0])
        self.assertEqual(led_into(EXAMPLE, the_set("xx", "xy")), the_set("aa", "ab"))
        self.assertEqual(led_into(EXAMPLE, the_set("x*", "x")), the_set("a*", "ab"))
        self.assertEqual(self.check(EXAMPLE, the_set("xx", "xy"))[0], "")
        self.assertEqual(self.check(EXAMPLE, the_set("x*", "x"))[0], "b")

    def test_letters_of_the_set(self):
        # The same letters, fewer, others, more.
        copy = boxes_of(term("copy({.*})"), "ab")
        self.assertEqual(led_into(copy, the_set("a*b", "ab")), the_set("a*b", "ab"))
        self.assertEqual(led_into(copy, the_set(".*", "a")), the_set("a*", "ab"))
        self.assertEqual(led_into(copy, the_set("!(b*)", "b")), the_set("[]", "ab"))
        self.assertEqual(led_into(copy, the_set(".*", "cd")), the_set("()", "ab"))
        self.assertEqual(led_into(copy, the_set(".+", "cd")), the_set("[]", "ab"))
        self.assertEqual(led_into(copy, the_set(".*", "abc")), the_set(".*", "ab"))
        self.assertEqual([first_outside(copy, the_set(*pair)) for pair in (("a*b", "ab"), (".*", "a"), (".*", "cd"), (".*", "abc"), (".+", "ab"))],
                         ["", "b", "a", None, ""])
        for text in ("a*b", ".*", "!(a*)", "ac*|b", "[]", "()"):
            for letters in ("a", "ab", "bc", "abc", "xyz"):
                self.check(copy, the_set(text, letters))

    def test_all_and_none(self):
        for boxes in (EXAMPLE, boxes_of(term("back(copy({a|b}))"), "ab"), boxes_of(term("cut(copy({a*}), word(\"xy\", {b*}))"), "ab")):
            self.assertIsNone(self.check(boxes, the_set(".*", "abxy"))[0])
            self.assertEqual(self.check(boxes, the_set("[]", "abxy"))[0], "")

    def test_no_value_at_some_texts_or_at_all(self):
        nothing = boxes_of(term("copy({[]})"), "ab")
        self.assertEqual(self.check(nothing, the_set(".*", "ab")), (None, 0))
        self.assertEqual(self.check(nothing, the_set("[]", "ab")), (None, 0))
        copy = boxes_of(term("copy({a*b})"), "ab")
        self.assertEqual(self.check(copy, the_set(".*", "ab")), (None, 6))
        self.assertEqual(self.check(copy, the_set("ab", "ab")), ("b", 1))

    def test_no_box(self):
        rows = ((((1, ()),), ((0, ()),)), (((0, ()),), (None,)))
        boxes = ("boxes", "ab", ((0, 0),), 0, rows, (("even",), ("odd",)))
        for text in ("even", "odd", "even|odd", "[]", ".*"):
            self.check(boxes, the_set(text, "denov"))
            self.check(boxes, the_set(text, "env"))

    def test_boxes_left_out_and_letters_only_in_them(self):
        # The letter c is not in the set, but it comes into a value only behind a b.
        boxes = ("boxes", "ab", ((0, 0),), 2, ((((0, ((0, "x"), ("c", 1))),), ((1, ((0, 1), ())),)), (((1, ((0, "x"), ())),), ((0, ((), ())),))), ((0,), (0,)))
        first, many = self.check(boxes, the_set("x*", "x"))
        self.assertEqual(first, "ab")
        self.assertGreater(many, 10)

    def test_machines_at_random(self):
        chance = random.Random(160)
        inside = outside = 0
        for _ in range(300):
            boxes = some_boxes(chance)
            letters = chance.choice(("abxz", "abxz", "abx", "abz", "ab", "bz"))
            first, many = self.check(boxes, any_machine(chance, letters, chance.randrange(1, 5)), 4)
            inside += many
            outside += first is not None
        self.assertGreater(inside, 1000)
        self.assertGreater(outside, 150)

    def test_classes_of_the_rest_with_two_and_three_boxes(self):
        chance = random.Random(161)
        for _ in range(60):
            boxes = any_boxes(chance, chance.choice(("ab", "abc")), 2, 3, chance.choice((2, 3)), 0.05, 0.1)
            self.check(boxes, any_machine(chance, "abxz", 3), 4)

    def test_more_to_tell_apart_from_one_side_than_from_the_other(self):
        # The fourth letter from the end, and the fourth one from the beginning; values are longer than that.
        copy = boxes_of(term("both(copy({.*}), copy({.*}))"), "ab")
        for text in (".*a...", "...a.*", ".*a......b..."):
            self.check(copy, the_set(text, "ab"), 8)
        back = boxes_of(term("back(copy({.}))"), "ab")
        self.assertEqual(led_into(back, the_set(".*a.......", "ab")), the_set(".......a.*", "ab"))
        self.assertEqual(led_into(back, the_set(".......a.*", "ab")), the_set(".*a.......", "ab"))

    def test_what_is_given_stays(self):
        machine = the_set("y*x*", "xy")
        before = repr((EXAMPLE, machine))
        led_into(EXAMPLE, machine)
        first_outside(EXAMPLE, machine)
        self.assertEqual(repr((EXAMPLE, machine)), before)
