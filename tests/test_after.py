import random
import unittest

from plainboxes import any_boxes, run
from plainly import texts
from plainvalues import term
from threescribes.after import after
from threescribes.boxes import is_boxes, run_boxes
from threescribes.build import boxes_of

WORDS = ("a", "b", "ab", "ba", "abb")


def one_class(letters, news, end, many=1):
    """A machine with one state and one class, with a news for each letter."""
    return ("boxes", letters, ((0,) * len(letters),), many, (tuple(((0, rows),) for rows in news),), (end,))


COPY = one_class("ab", (((0, "a"),), ((0, "b"),)), (0,))
BACK = one_class("ab", ((("a", 0),), (("b", 0),)), (0,))
DOUBLE = one_class("ab", (((0, "aa"),), ((0, "bb"),)), (0,))
TWICE = one_class("ab", (((0, "a"), (1, "a")), ((0, "b"), (1, "b"))), (0, 1), 2)
# The values have the letters a and c.
OTHER = one_class("ab", (((0, "a"),), ((0, "ca"),)), (0,))
# Class 1 is that of all rests that are not empty: the last letter is written otherwise.
LAST = ("boxes", "ab", ((1, 1), (1, 1)), 1, (((((0, ((0, "x"),)), (0, ((0, "a"),))), ((0, ((0, "y"),)), (0, ((0, "b"),))))),), ((0,),))
# The class tells whether the number of the letters a in the rest is even; a b goes to either end.
PARITY = ("boxes", "ab", ((1, 0), (0, 1)), 1, (((((0, ((0, "a"),)), (0, ((0, "a"),))), ((0, (("b", 0),)), (0, ((0, "b"),))))),), ((0,),))


class OneBehindTheOther(unittest.TestCase):
    def check(self, first, second, longest=4, long=(12, 25)):
        machine = after(first, second)
        self.assertTrue(is_boxes(machine))
        self.assertEqual(machine[1], first[1])
        self.assertLessEqual(machine[3], 2 * first[3] * second[3])
        chance = random.Random(90)
        words = texts(first[1], longest) + ["".join(chance.choice(first[1]) for _ in range(many)) for many in long]
        found = 0
        for text in words:
            between = run(first, text)
            value = None
            if between is not None and all(sign in second[1] for sign in between):
                value = run_boxes(second, between)
            found += value is not None
            self.assertEqual(run_boxes(machine, text), value, (first, second, text, between))
        return machine, found

    def test_the_example(self):
        machine, _ = self.check(DOUBLE, BACK)
        self.assertEqual(run_boxes(machine, "ab"), "bbaa")
        self.assertEqual(run_boxes(machine, ""), "")

    def test_all_pairs_of_some(self):
        machines = (COPY, BACK, DOUBLE, TWICE, LAST, PARITY, OTHER)
        for first in machines:
            for second in machines:
                self.check(first, second, 5)

    def test_three_behind_one_another(self):
        for one, two, three in ((BACK, BACK, BACK), (DOUBLE, TWICE, BACK), (TWICE, PARITY, LAST), (LAST, COPY, BACK)):
            together = after(after(one, two), three)
            self.assertEqual(run_boxes(together, "abbab"), run_boxes(after(one, after(two, three)), "abbab"))
            self.check(after(one, two), three, 5)
            self.check(one, after(two, three), 5)

    def test_no_box_in_the_first_one(self):
        # Its values are those of its ends.
        rows = ((((1, ()),), ((2, ()),)), (((0, ()),), (None,)), (((2, ()),), ((1, ()),)))
        first = ("boxes", "ab", ((0, 0),), 0, rows, (("ab",), ("bba",), ()))
        for second in (COPY, BACK, TWICE, LAST, PARITY):
            machine, _ = self.check(first, second, 6)
            self.assertEqual(machine[3], 0)
        self.check(first[:5] + ((("ab",), ("bca",), None),), BACK, 6)
        self.check(first[:5] + ((None, None, None),), BACK)

    def test_no_box_in_the_second_one(self):
        rows = ((((1, ()),), ((0, ()),)), (((0, ()),), ((1, ()),)))
        for second in (("boxes", "ab", ((0, 0),), 0, rows, (("even",), ("odd",))), ("boxes", "ab", ((0, 0),), 0, rows, (None, ("odd",))),
                       ("boxes", "ab", ((1, 0), (0, 1)), 0, ((((0, ()), None), ((0, ()), (0, ()))),), (("w",),)),
                       ("boxes", "ab", ((0, 0),), 0, (((None,), (None,)),), (("empty",),))):
            for first in (COPY, BACK, DOUBLE, TWICE, LAST, PARITY, OTHER):
                machine, _ = self.check(first, second, 5)
                self.assertEqual(machine[3], 0)

    def test_no_box_in_either(self):
        first = ("boxes", "a", ((0,),), 0, ((((1, ()),),), (((0, ()),),)), (("a",), ("ab",)))
        second = ("boxes", "ab", ((0, 0),), 0, ((((1, ()),), ((0, ()),)), (((0, ()),), ((1, ()),))), (("even",), ("odd",)))
        machine, _ = self.check(first, second)
        self.assertEqual([run_boxes(machine, "a" * many) for many in range(3)], ["odd"] * 3)

    def test_letters_that_the_second_one_does_not_have(self):
        only_a = one_class("a", (((0, "x"),),), (0,))
        for first in (COPY, OTHER, TWICE):
            machine, _ = self.check(first, only_a, 5)
            self.assertEqual(run_boxes(machine, "aa"), "x" * len(run(first, "aa")))
            self.assertIsNone(run_boxes(machine, "ab"))
        # A letter in a box that comes into no value does no harm, nor one at which the first machine has none.
        first = one_class("ab", (((0, "a"), (1, "c")), ((0, "b"), ("c",))), (0,), 2)
        machine, _ = self.check(first, BACK, 5)
        self.assertEqual(run_boxes(machine, "aab"), "baa")
        # A letter that is left out again.
        first = one_class("ab", (((0, "c"),), (("b",),)), (0,))
        machine, _ = self.check(first, BACK, 5)
        self.assertEqual([run_boxes(machine, text) for text in ("", "a", "ab", "aaba", "abab")], ["", None, "b", None, "b"])

    def test_letters_in_ends(self):
        for end in (("c", 0), (0, "c"), ("a", 0, "bx")):
            self.check(COPY[:5] + ((end,),), BACK)
            self.check(COPY[:5] + ((end,),), one_class("abcx", (((0, "a"),), (("b", 0),), ((0, "c"),), ((0, "x"),)), (0,)))

    def test_unlike_letters(self):
        first = one_class("xz", (((0, "ab"),), (("b", 0),)), ("a", 0))
        self.check(first, LAST, 5)
        self.check(first, one_class("bcd", (((0, "b"),),) * 3, (0,)), 5)
        self.check(one_class("abcdef", tuple(((0, sign),) for sign in "fedcba"), (0,)),
                   one_class("abcdef", tuple(((sign, 0),) for sign in "badcfe"), (0,)), 3)

    def test_no_value_of_the_first_one(self):
        first = ("boxes", "ab", ((1, 1), (1, 1)), 1, ((((0, ((0, "a"),)), None), ((0, ((0, "b"),)), (0, ((0, "b"),)))),), ((0,),))
        self.check(first, BACK, 5)
        self.check(COPY[:5] + ((None,),), BACK)

    def test_no_value_of_the_second_one(self):
        # It stops at a b with a rest behind it, or has no end behind an odd number of letters.
        second = ("boxes", "ab", ((1, 1), (1, 1)), 1, ((((0, ((0, "a"),)), (0, ((0, "a"),))), ((0, ((0, "b"),)), None)),), ((0,),))
        rows = ((((1, ((0, "a"),)),), ((1, (("b", 0),)),)), (((0, ((0, "c"),)),), ((0, ((0, "d"),)),)))
        odd = ("boxes", "ab", ((0, 0),), 1, rows, ((0,), None))
        for first in (COPY, BACK, DOUBLE, TWICE, LAST, PARITY, OTHER):
            self.check(first, second, 5)
            self.check(first, odd, 5)
            self.check(first, COPY[:5] + ((None,),), 3)

    def test_pairs_at_random(self):
        chance = random.Random(91)
        many = 0
        for _ in range(300):
            first = self.drawn(chance, chance.choice(("a", "ab", "abc")), (1, 2), (1, 2, 3), (0, 1, 2, 3))
            second = self.drawn(chance, chance.choice(("ab", "ab", "abx", "abcd")), (1, 2), (1, 2), (0, 1, 2))
            many += self.check(first, second, 3, (9,))[1]
        self.assertGreater(many, 3000)

    def test_pairs_with_more_states_and_boxes(self):
        chance = random.Random(92)
        for _ in range(40):
            first = self.drawn(chance, chance.choice(("a", "ab")), (3, 4), (1, 2), (1, 2))
            second = self.drawn(chance, "ab", (2, 3), (1, 2), (1, 2))
            self.check(first, second, 4, (20,))
            first = self.drawn(chance, chance.choice(("a", "ab")), (1, 2), (1, 2), (3, 4))
            second = self.drawn(chance, "ab", (1, 2), (1,), (3,))
            self.check(first, second, 4, (20,))

    def test_pairs_with_unlike_letters_at_random(self):
        chance = random.Random(93)
        for _ in range(150):
            first = self.drawn(chance, chance.choice(("a", "xz", "bc")), (1, 2), (1, 2), (1, 2), ("a", "b", "c", "ab"))
            second = self.drawn(chance, chance.choice(("a", "ab", "bc", "abc")), (1, 2), (1, 2), (0, 1, 2), ("x", "zz"))
            self.check(first, second, 4, (9,))

    def test_pairs_with_three_boxes_each_of_which_little_is_lost(self):
        # Few of these have less than some hundred states.
        chance = random.Random(94)
        most = 0
        for _ in range(12):
            first = any_boxes(chance, chance.choice(("ab", "abc")), chance.choice((1, 2)), 1, 3, 0, 0, 0.05)
            second = any_boxes(chance, "ab", chance.choice((1, 2)), chance.choice((1, 1, 2)), 3, 0, 0, 0.05)
            names = dict(zip(("a", "b", "x", "ab", "zz"), WORDS))
            machine, _ = self.check(spelled(first, names), spelled(second, names), 4, (9, 20))
            most = max(most, len(machine[5]))
        self.assertGreater(most, 1000)

    def drawn(self, chance, letters, states, classes, boxes, words=WORDS):
        machine = any_boxes(chance, letters, chance.choice(states), chance.choice(classes), chance.choice(boxes),
                            chance.choice((0, 0, 0.1)), chance.choice((0, 0, 0.2)))
        names = dict(zip(("a", "b", "x", "ab", "zz"), words * 2))
        return spelled(machine, names)

    def test_machines_of_terms(self):
        texts_of_terms = ("copy({a*b})", "back(copy({.}))", "each(both(copy({.}), copy({.})))", "both(copy({.*}), copy({.*}))",
                          "chain({.}, copy({..}))", "cut(copy({a*}), copy({b.*}))", 'each(pick({a}, word("ab", {.}), word("", {.})))')
        for one in texts_of_terms:
            for other in texts_of_terms:
                self.check(boxes_of(term(one), "ab"), boxes_of(term(other), "ab"), 5)

    def test_what_is_given_stays(self):
        before = repr((DOUBLE, PARITY))
        after(DOUBLE, PARITY)
        self.assertEqual(repr((DOUBLE, PARITY)), before)


def spelled(part, names):
    """A machine with other strings in its rows."""
    def renamed(thing):
        return tuple(renamed(x) for x in thing) if isinstance(thing, tuple) else names.get(thing, thing)

    return part[:4] + (renamed(part[4]), renamed(part[5]))
