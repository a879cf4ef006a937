import random
import unittest

import plainpapers as plain
from plainboxes import any_boxes, run
from plainly import texts
from plainpairs import changed, doubled, small_boxes
from threescribes.alike import alike
from threescribes.judge import takes
from threescribes.smaller import smaller

# With the last letter of the rest as its class, or without: the last letter first, then the text.
AHEAD = ("boxes", "ab", ((1, 2), (1, 1), (2, 2)), 1,
         tuple(tuple(tuple((1, ((last + sign,) if state == 0 else (0, sign),)) for last in (sign, "a", "b")) for sign in "ab") for state in (0, 1)),
         ((), (0,)))
COPY = ("boxes", "ab", ((0, 0),), 1, ((((0, ((0, "a"),)),), ((0, ((0, "b"),)),)),), ((0,),))
TWICE = ("boxes", "ab", ((0, 0),), 2, ((((0, ((0, "a"), (1, "a"))),), ((0, ((0, "b"), (1, "b"))),)),), ((0, 1),))
# Letters a only have the same value as in COPY.
BACK = ("boxes", "ab", ((0, 0),), 1, ((((0, (("a", 0),)),), ((0, (("b", 0),)),)),), ((0,),))
NO_VALUE = ("boxes", "ab", ((0, 0),), 0, ((((0, ()),), ((0, ()),)),), (None,))
STOPPED = ("boxes", "ab", ((0, 0),), 1, (((None,), (None,)),), (None,))
CONSTANT = ("boxes", "ab", ((0, 0),), 0, ((((0, ()),), ((0, ()),)),), (("w",),))
ONLY_EMPTY = ("boxes", "ab", ((0, 0),), 0, (((None,), (None,)),), (("w",),))


class Alike(unittest.TestCase):
    def check(self, one, other, longest=None):
        """What alike tells, held against all texts up to a length."""
        longest = longest or {1: 9, 2: 6, 3: 4}[len(one[1])]
        found = alike(one, other)
        self.assertIsInstance(found, tuple)
        parts = [text for text in texts(one[1], longest) if run(one, text) != run(other, text)]
        if found[0] == "alike":
            self.assertEqual((len(found), parts), (2, []))
            self.assertIsNone(plain.fault(one, other, found[1]))
            self.assertTrue(takes(one, other, found[1]))
            return None
        self.assertEqual((len(found), found[0]), (2, "part"))
        if parts:
            self.assertEqual(found[1], parts[0])
        else:
            self.assertGreater(len(found[1]), longest)
            self.assertNotEqual(run(one, found[1]), run(other, found[1]))
        return found[1]

    def test_named_machines_that_are_alike(self):
        for machine in (COPY, BACK, TWICE, AHEAD, NO_VALUE, STOPPED, CONSTANT, ONLY_EMPTY):
            self.assertIsNone(self.check(machine, machine))
            self.assertIsNone(self.check(machine, smaller(machine)))
        self.assertIsNone(self.check(NO_VALUE, STOPPED))
        self.assertIsNone(self.check(STOPPED, NO_VALUE))
        # The two boxes of one of them stand in the place of each other.
        self.assertIsNone(self.check(TWICE, TWICE[:5] + (((1, 0),),)))

    def test_named_machines_that_part(self):
        for one, other, text in ((COPY, BACK, "ab"), (COPY, TWICE, "a"), (COPY, AHEAD, "a"), (NO_VALUE, COPY, ""), (CONSTANT, NO_VALUE, ""),
                                 (CONSTANT, ONLY_EMPTY, "a"), (COPY, CONSTANT, ""), (AHEAD, TWICE, "aa"), (TWICE, BACK, "a"),
                                 (COPY, COPY[:4] + (((COPY[4][0][0], (None,)),), COPY[5]), "b")):
            self.assertEqual(self.check(one, other), text)
            self.assertEqual(self.check(other, one), text)

    def test_texts_in_order(self):
        # They part at "ba" and at "abbb", but at no shorter text, nor at "aa" or "ab".
        def chain(state_of):
            states = sorted({goal for goals in state_of.values() for goal in goals} | set(state_of))
            rows = tuple(tuple(((state_of[state][k], ()),) for k in range(2)) for state in states)
            return rows, len(states)

        rows, many = chain({0: (1, 2), 1: (5, 3), 2: (4, 5), 3: (5, 6), 4: (5, 5), 5: (5, 5), 6: (5, 7), 7: (5, 5)})
        one = ("boxes", "ab", ((0, 0),), 0, rows, tuple(("w",) for _ in range(many)))
        for states, text in (((4, 7), "ba"), ((7,), "abbb"), ((3, 4), "ab"), ((4,), "ba"), ((2, 3), "b"), ((5,), "aa")):
            other = one[:5] + (tuple(("v",) if state in states else ("w",) for state in range(many)),)
            self.assertEqual(self.check(one, other), text)
            other = one[:5] + (tuple(None if state in states else ("w",) for state in range(many)),)
            self.assertEqual(self.check(other, one), text)

    def test_a_long_text(self):
        # The sixth letter counted from the end is told by one of them, so they part at a text of six letters.
        many = 7
        rows = tuple(tuple(((min(state + 1, many - 1), ()),) for _ in "ab") for state in range(many))
        one = ("boxes", "ab", ((0, 0),), 0, rows, ((),) * many)
        self.assertEqual(self.check(one, one[:5] + (((),) * (many - 1) + (("a",),),)), "aaaaaa")

    def test_machines_in_unlike_forms(self):
        chance = random.Random(140)
        for _ in range(60):
            one = small_boxes(chance)
            self.assertIsNone(self.check(one, doubled(chance, one)))
            self.assertIsNone(self.check(doubled(chance, one), smaller(one)))

    def test_machines_of_which_one_was_changed(self):
        chance = random.Random(141)
        parted = 0
        for _ in range(120):
            one = small_boxes(chance)
            parted += self.check(one, changed(chance, one)) is not None
            parted += self.check(changed(chance, doubled(chance, one)), one) is not None
        self.assertGreater(parted, 60)

    def test_any_two_machines(self):
        chance = random.Random(142)
        for _ in range(80):
            one = small_boxes(chance)
            self.check(one, any_boxes(chance, one[1], chance.randrange(1, 3), chance.randrange(1, 3), chance.randrange(3)))

    def test_three_boxes(self):
        chance = random.Random(143)
        for _ in range(6):
            one = any_boxes(chance, "ab", 2, 1, 3)
            self.assertIsNone(self.check(one, doubled(chance, one), 5))
            self.check(one, changed(chance, one), 5)

    def test_forms_of_papers(self):
        begins, nodes = alike(COPY, COPY)[1]
        self.assertEqual(begins[0], (1, (1,) + (0,) * (len(nodes[0][1]) - 1)))
        self.assertEqual([entry[0] for entry in nodes], [(0, 0, 0, 0)])
        begins, nodes = alike(NO_VALUE, STOPPED)[1]
        self.assertEqual([entry[0] for entry in nodes], [(0, 0, -1, 0), (0, 0, 0, 0)])
        self.assertEqual(len(alike(AHEAD, AHEAD)[1][0]), 3)

    def test_what_is_given_stays(self):
        before = repr((AHEAD, TWICE))
        alike(AHEAD, TWICE)
        alike(AHEAD, AHEAD)
        self.assertEqual(repr((AHEAD, TWICE)), before)
