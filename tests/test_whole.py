"""What the document promises over the whole program: one function in all forms, and functions compared."""

import random
import unittest

from plainboxes import run
from plainly import texts
from plainpairs import changed
from plainterms import any_term
from plainvalues import SETS, term, value
from threescribes.after import after
from threescribes.alike import alike
from threescribes.boxes import domain_of, is_boxes, run_boxes
from threescribes.build import boxes_of
from threescribes.crossings import boxes_of_head
from threescribes.heads import is_head, is_plain, run_head
from threescribes.into import first_outside, led_into
from threescribes.judge import takes
from threescribes.meaning import value_of
from threescribes.plainhead import plain_head
from threescribes.settexts import set_of
from threescribes.smaller import smaller
from threescribes.walks import head_of

NAMED = ("copy({a*b})", "back(copy({.}))", "both(copy({.*}), back(copy({.})))", "each(both(copy({.}), copy({.})))", "chain({a*b}, back(copy({.})))",
         "cut(copy({a*}), each(word(\"xy\", {b})))", "pick({.*a}, copy({.*}), word(\"w\", {b*}))", "then(back(copy({.})), cut(copy({a*}), copy({b.*})))")


class AllForms(unittest.TestCase):
    def alike(self, one, other):
        kind, paper = alike(one, other)
        self.assertEqual(kind, "alike")
        self.assertTrue(takes(one, other, paper))

    def check(self, tree, longest=4):
        boxes = boxes_of(tree, "ab")
        head = head_of(boxes)
        plain = plain_head(head)
        self.assertTrue(is_boxes(boxes) and is_head(head) and is_head(plain) and is_plain(plain))
        for text in texts("ab", longest):
            due = value(tree, "ab", text)
            self.assertEqual([value_of(tree, "ab", text), run_boxes(boxes, text), run_head(head, text), run_head(plain, text)], [due] * 4)
        for other in (smaller(boxes), boxes_of_head(head), boxes_of_head(plain)):
            self.alike(boxes, other)
            self.alike(other, boxes)
        return boxes

    def test_named_terms(self):
        for text in NAMED:
            self.check(term(text), 5)

    def test_terms_at_random(self):
        chance = random.Random(190)
        done = 0
        while done < 60:
            tree = any_term(chance, 3, SETS)
            if boxes_of(tree, "ab")[3] <= 3:
                self.check(tree)
                done += 1

    def test_one_of_them_changed(self):
        chance = random.Random(191)
        parted = 0
        for text in NAMED * 4:
            boxes = boxes_of(term(text), "ab")
            other = boxes_of_head(head_of(changed(chance, boxes)))
            found = alike(boxes, other)
            unlike = [word for word in texts("ab", 6) if run(boxes, word) != run(other, word)]
            self.assertEqual(found[0], "part" if unlike else "alike")
            if unlike:
                self.assertEqual(found[1], unlike[0])
                parted += 1
            else:
                self.assertTrue(takes(boxes, other, found[1]))
        self.assertGreater(parted, 10)

    def test_then_is_after(self):
        for one in NAMED:
            for other in NAMED:
                first, second = boxes_of(term(one), "ab"), boxes_of(term(other), "ab")
                together = boxes_of(term(f"then({one}, {other})"), "ab")
                if together[3] <= 4:
                    self.alike(together, after(first, second))

    def test_after_and_led_into(self):
        # The texts led into a set by two machines are led by the first one into what the second one leads into it.
        chance = random.Random(192)
        for one in NAMED:
            for other in NAMED:
                first, second = boxes_of(term(one), "ab"), boxes_of(term(other), "ab")
                machine = set_of(chance.choice(SETS), "ab")
                self.assertEqual(led_into(after(first, second), machine), led_into(first, led_into(second, machine)))
        for one in NAMED:
            boxes = boxes_of(term(one), "ab")
            self.assertIsNone(first_outside(boxes, led_into_all(boxes)))
            identity = boxes_of(term("copy({.*})"), "ab")
            self.assertEqual(led_into(identity, domain_of(boxes)), domain_of(boxes))
            self.assertEqual(domain_of(after(identity, boxes)), domain_of(boxes))


def led_into_all(boxes):
    """The set of all texts over the letters that values may have."""
    return set_of(("star", ("any",)), "abwxy")
