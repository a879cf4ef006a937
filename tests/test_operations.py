import random
import unittest

from plainly import any_machine, is_least, read, texts
from threescribes.sets import all_texts, is_set, join, least, less, meet, no_texts, row, star, turned

ONLY_B_LAST = ("set", "ab", ((0, 1), (2, 2), (2, 2)), (False, True, False))
# The same set, with equivalent states, states that are never met, and other numbers.
ANOTHER = ("set", "ab", ((4, 2), (1, 3), (3, 5), (3, 5), (0, 2), (5, 3)), (False, True, True, False, False, False))
# The texts of an even number of letters.
EVEN = ("set", "ab", ((1, 1), (0, 0)), (True, False))
JUST_EMPTY = ("set", "ab", ((1, 1), (1, 1)), (True, False))
ALL = ("set", "ab", ((0, 0),), (True,))
NONE = ("set", "ab", ((0, 0),), (False,))


def splits(text):
    return [(text[:k], text[k:]) for k in range(len(text) + 1)]


def in_star(machine, text):
    return text == "" or any(read(machine, u) and in_star(machine, v) for u, v in splits(text)[1:])


WHAT_THEY_MEAN = {
    join: lambda one, other, text: read(one, text) or read(other, text),
    meet: lambda one, other, text: read(one, text) and read(other, text),
    less: lambda one, other, text: read(one, text) and not read(other, text),
    row: lambda one, other, text: any(read(one, u) and read(other, v) for u, v in splits(text)),
}


class Operations(unittest.TestCase):
    def check(self, found, letters, meaning):
        self.assertTrue(is_set(found), found)
        self.assertEqual(found[1], letters)
        self.assertTrue(is_least(found), found)
        for text in texts(letters, 6 if len(letters) < 3 else 4):
            self.assertEqual(read(found, text), meaning(text), (found, text))

    def check_two(self, one, other):
        for function, meaning in WHAT_THEY_MEAN.items():
            with self.subTest(function=function.__name__, one=one, other=other):
                self.check(function(one, other), one[1], lambda text: meaning(one, other, text))

    def check_one(self, machine):
        with self.subTest(machine=machine):
            self.check(star(machine), machine[1], lambda text: in_star(machine, text))
            self.check(turned(machine), machine[1], lambda text: read(machine, text[::-1]))

    def test_told_machines(self):
        machines = (ONLY_B_LAST, ANOTHER, EVEN, JUST_EMPTY, ALL, NONE)
        for one in machines:
            self.check_one(one)
            for other in machines:
                self.check_two(one, other)

    def test_machines_at_random(self):
        chance = random.Random(4)
        for _ in range(60):
            letters = chance.choice(("a", "ab", "ab", "bcd"))
            one = any_machine(chance, letters, chance.randrange(1, 6))
            other = any_machine(chance, letters, chance.randrange(1, 6))
            self.check_one(one)
            self.check_two(one, other)

    def test_only_the_sets_of_what_is_given_matter(self):
        for function in (join, meet, less, row):
            for other in (EVEN, ONLY_B_LAST):
                self.assertEqual(function(ANOTHER, other), function(ONLY_B_LAST, other))
                self.assertEqual(function(other, ANOTHER), function(other, ONLY_B_LAST))
        self.assertEqual(star(ANOTHER), star(ONLY_B_LAST))
        self.assertEqual(turned(ANOTHER), turned(ONLY_B_LAST))
        self.assertEqual(least(ANOTHER), ONLY_B_LAST)

    def test_results_as_machines(self):
        self.assertEqual(join(ONLY_B_LAST, JUST_EMPTY),
                         ("set", "ab", ((1, 2), (1, 2), (3, 3), (3, 3)), (True, False, True, False)))
        self.assertEqual(meet(ONLY_B_LAST, EVEN),
                         ("set", "ab", ((1, 2), (0, 3), (2, 2), (2, 2)), (False, False, False, True)))
        self.assertEqual(less(ALL, ONLY_B_LAST),
                         ("set", "ab", ((0, 1), (2, 2), (2, 2)), (True, False, True)))
        self.assertEqual(row(ALL, ONLY_B_LAST), ("set", "ab", ((0, 1), (0, 1)), (False, True)))
        self.assertEqual(star(ONLY_B_LAST), ("set", "ab", ((1, 0), (1, 0)), (True, False)))
        self.assertEqual(turned(ONLY_B_LAST), ("set", "ab", ((1, 2), (1, 1), (2, 1)), (False, False, True)))

    def test_the_empty_text_and_no_text(self):
        self.assertEqual(star(NONE), JUST_EMPTY)
        self.assertEqual(star(JUST_EMPTY), JUST_EMPTY)
        self.assertEqual(row(NONE, ALL), NONE)
        self.assertEqual(row(ALL, NONE), NONE)
        self.assertEqual(row(JUST_EMPTY, ONLY_B_LAST), ONLY_B_LAST)
        self.assertEqual(row(ONLY_B_LAST, JUST_EMPTY), ONLY_B_LAST)
        self.assertEqual(turned(NONE), NONE)
        self.assertEqual(turned(JUST_EMPTY), JUST_EMPTY)

    def test_a_set_that_needs_many_states(self):
        # The texts with an a eleven letters ahead of their end.
        tail = ("set", "ab", tuple((k + 1, k + 1 if k else 12) for k in range(12)) + ((12, 12),),
                tuple(k == 11 for k in range(13)))
        found = row(ALL, tail)
        self.assertEqual(len(found[2]), 2 ** 11)
        self.assertEqual(turned(found), least(row(turned(tail), ALL)))

    def test_what_is_given_stays(self):
        copy = tuple(list(ANOTHER))
        for function in (join, meet, less, row):
            function(ANOTHER, ONLY_B_LAST)
            function(ONLY_B_LAST, ANOTHER)
            self.assertEqual(ANOTHER, copy)
        star(ANOTHER)
        turned(ANOTHER)
        self.assertEqual(ANOTHER, copy)
        self.assertEqual(ONLY_B_LAST, ("set", "ab", ((0, 1), (2, 2), (2, 2)), (False, True, False)))


class AllAndNone(unittest.TestCase):
    def test_all_texts_and_no_texts(self):
        for letters in ("a", "ab", "bxy", "abcdef"):
            self.assertEqual(all_texts(letters), ("set", letters, ((0,) * len(letters),), (True,)))
            self.assertEqual(no_texts(letters), ("set", letters, ((0,) * len(letters),), (False,)))
            self.assertTrue(is_set(all_texts(letters)) and is_set(no_texts(letters)))
