import random
import unittest

from plainly import any_machine
from threescribes.sets import is_set

GOALS = ((0, 1), (2, 2), (2, 2))
ENDS = (False, True, False)


class RightMachines(unittest.TestCase):
    def test_the_example(self):
        self.assertIs(is_set(("set", "ab", GOALS, ENDS)), True)

    def test_one_state(self):
        self.assertIs(is_set(("set", "a", ((0,),), (True,))), True)
        self.assertIs(is_set(("set", "abcdef", ((0,) * 6,), (False,))), True)

    def test_any_right_letters(self):
        for letters in ("a", "z", "az", "bxy", "abcdef", "uvwxyz"):
            self.assertIs(is_set(("set", letters, ((0,) * len(letters),), (True,))), True)

    def test_states_that_are_never_met_and_equivalent_states(self):
        self.assertIs(is_set(("set", "a", ((0,), (0,), (2,)), (False, False, False))), True)
        self.assertIs(is_set(("set", "a", ((1,), (0,)), (True, True))), True)

    def test_machines_at_random(self):
        chance = random.Random(1)
        for _ in range(200):
            letters = chance.choice(("a", "ab", "bcd", "abcdef"))
            self.assertIs(is_set(any_machine(chance, letters, chance.randrange(1, 8))), True)


class OtherThings(unittest.TestCase):
    def check(self, *things):
        for thing in things:
            with self.subTest(thing=thing):
                self.assertIs(is_set(thing), False)

    def test_no_tuples_of_four(self):
        self.check(None, True, False, 0, 1, -3, 4, "", "set", "seta", "abcd", (), ("set",), ("set", "ab"))
        self.check(("set", "ab", GOALS), ("set", "ab", GOALS, ENDS, ENDS), ("set", "ab", GOALS, ENDS, None))
        self.check((("set", "ab", GOALS, ENDS),), ("ab", GOALS, ENDS), ("set", GOALS, ENDS))

    def test_another_first_word(self):
        for word in ("Set", "sets", "", "boxes", "head", None, True, 0, ("set",)):
            self.check((word, "ab", GOALS, ENDS))

    def test_letters(self):
        for letters in ("ba", "aa", "aba", "aB", "AB", "a1", "a ", " a", "a{", "`a", "\u00e4\u00f6", "a\u00e4", "a\n"):
            self.check(("set", letters, ((0,) * len(letters),), (True,)))
        self.check(("set", "", ((),), (True,)))
        self.check(("set", "abcdefg", ((0,) * 7,), (True,)))
        self.check(("set", "abdcef", ((0,) * 6,), (True,)), ("set", "abcdee", ((0,) * 6,), (True,)))
        for letters in (None, True, 2, ("a", "b"), ("ab",), ()):
            self.check(("set", letters, GOALS, ENDS))

    def test_number_of_states(self):
        self.check(("set", "ab", (), ()))
        self.check(("set", "ab", GOALS, ENDS[:2]), ("set", "ab", GOALS, ENDS + (True,)))
        self.check(("set", "ab", GOALS, ()), ("set", "ab", (), ENDS))
        self.check(("set", "ab", GOALS + ((0, 0),), ENDS))

    def test_number_of_entries(self):
        self.check(("set", "ab", ((0,), (2, 2), (2, 2)), ENDS))
        self.check(("set", "ab", ((0, 1), (2, 2), (2, 2, 2)), ENDS))
        self.check(("set", "ab", ((0, 1), (), (2, 2)), ENDS))
        self.check(("set", "a", GOALS, ENDS), ("set", "abc", GOALS, ENDS))

    def test_states_out_of_range(self):
        for wrong in (3, -1, -3, 100):
            self.check(("set", "ab", ((0, wrong), (2, 2), (2, 2)), ENDS))
            self.check(("set", "ab", ((0, 1), (2, 2), (wrong, 2)), ENDS))
        self.check(("set", "a", ((1,),), (True,)))

    def test_truths_are_no_states(self):
        for wrong in (True, False):
            self.check(("set", "ab", ((0, wrong), (2, 2), (2, 2)), ENDS))
            self.check(("set", "ab", ((0, 1), (2, 2), (2, wrong)), ENDS))

    def test_other_things_are_no_states(self):
        for wrong in (None, "", "0", "1", (), (0,)):
            self.check(("set", "ab", ((0, wrong), (2, 2), (2, 2)), ENDS))

    def test_integers_and_other_things_are_no_ends(self):
        for wrong in (0, 1, None, "", "True", (), (True,), 2):
            self.check(("set", "ab", GOALS, (wrong, True, False)))
            self.check(("set", "ab", GOALS, (False, True, wrong)))

    def test_what_is_no_tuple(self):
        for wrong in (None, True, 0, 3, "abc", "012"):
            self.check(("set", "ab", wrong, ENDS), ("set", "ab", GOALS, wrong))
            self.check(("set", "ab", ((0, 1), wrong, (2, 2)), ENDS))
        self.check(("set", "ab", ("ab", "ab", "ab"), ENDS), ("set", "ab", "abc", "abc"))
