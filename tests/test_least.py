import random
import unittest

from plainly import any_machine, is_least, read, texts
from threescribes.sets import contains, is_set, least, shortest

ONLY_B_LAST = ("set", "ab", ((0, 1), (2, 2), (2, 2)), (False, True, False))


def mixed(chance, machine):
    """The machine with other numbers, the first state excepted, with copies of states, and more states."""
    _, letters, goals, ends = machine
    many = len(goals)
    copies = list(range(many)) + [chance.randrange(many) for _ in range(3)]
    numbers = [0] + chance.sample(range(1, len(copies)), len(copies) - 1)
    new_goals, new_ends = [None] * len(copies), [None] * len(copies)
    for place, state in enumerate(copies):
        behind = [chance.choice([k for k, q in enumerate(copies) if q == goal]) for goal in goals[state]]
        new_goals[numbers[place]] = tuple(numbers[k] for k in behind)
        new_ends[numbers[place]] = ends[state]
    for _ in range(2):
        new_goals.append(tuple(chance.randrange(len(new_goals)) for _ in letters))
        new_ends.append(chance.random() < 0.5)
    return ("set", letters, tuple(new_goals), tuple(new_ends))


class TheLeastMachine(unittest.TestCase):
    def test_a_least_one_stays(self):
        self.assertEqual(least(ONLY_B_LAST), ONLY_B_LAST)

    def test_other_numbers(self):
        self.assertEqual(least(("set", "ab", ((0, 2), (1, 1), (1, 1)), (False, False, True))), ONLY_B_LAST)

    def test_states_that_are_never_met(self):
        given = ("set", "ab", ((0, 1), (2, 2), (2, 2), (0, 3), (3, 1)), (False, True, False, True, False))
        self.assertEqual(least(given), ONLY_B_LAST)
        given = ("set", "ab", ((0, 3), (1, 0), (2, 2), (2, 2)), (False, True, False, True))
        self.assertEqual(least(given), ONLY_B_LAST)

    def test_equivalent_states(self):
        given = ("set", "ab", ((1, 2), (0, 3), (4, 5), (5, 5), (4, 4), (5, 4)),
                 (False, False, True, True, False, False))
        self.assertEqual(least(given), ONLY_B_LAST)

    def test_all_states_alike(self):
        self.assertEqual(least(("set", "ab", ((1, 2), (2, 0), (1, 1)), (True,) * 3)), ("set", "ab", ((0, 0),), (True,)))
        self.assertEqual(least(("set", "ab", ((1, 2), (2, 0), (1, 1)), (False,) * 3)),
                         ("set", "ab", ((0, 0),), (False,)))

    def test_an_end_that_is_never_met(self):
        self.assertEqual(least(("set", "a", ((0,), (0,)), (False, True))), ("set", "a", ((0,),), (False,)))

    def test_numbers_go_by_states_and_then_by_letters(self):
        given = ("set", "ab", ((3, 1), (4, 0), (0, 0), (2, 0), (4, 4)), (False, True, True, False, False))
        self.assertEqual(least(given), ("set", "ab", ((1, 2), (3, 0), (4, 0), (0, 0), (4, 4)),
                                        (False, False, True, True, False)))

    def test_a_long_row_of_states(self):
        many = 2000
        goals = tuple((min(k + 1, many - 1),) for k in range(many))
        given = ("set", "a", goals, tuple(k == many - 1 for k in range(many)))
        self.assertEqual(least(given), given)
        alike = ("set", "a", tuple(((k + 1) % many,) for k in range(many)), tuple(k % 2 == 0 for k in range(many)))
        self.assertEqual(least(alike), ("set", "a", ((1,), (0,)), (True, False)))

    def test_machines_at_random(self):
        chance = random.Random(2)
        for _ in range(300):
            letters = chance.choice(("a", "ab", "bcd"))
            given = any_machine(chance, letters, chance.randrange(1, 9))
            found = least(given)
            self.assertTrue(is_set(found))
            self.assertTrue(is_least(found), given)
            for text in texts(letters, 5):
                self.assertEqual(read(found, text), read(given, text))
            self.assertEqual(least(found), found)
            self.assertEqual(least(mixed(chance, given)), found)

    def test_what_is_given_stays(self):
        given = ("set", "ab", ((1, 2), (0, 3), (4, 4), (4, 4), (4, 4)), (False, False, True, True, False))
        copy = ("set", "ab", ((1, 2), (0, 3), (4, 4), (4, 4), (4, 4)), (False, False, True, True, False))
        for function in (is_set, least, shortest, lambda machine: contains(machine, "ab")):
            function(given)
            self.assertEqual(given, copy)


class Contains(unittest.TestCase):
    def test_texts(self):
        for text, told in (("b", True), ("ab", True), ("aaab", True), ("", False), ("a", False), ("ba", False),
                           ("bb", False), ("abb", False)):
            self.assertIs(contains(ONLY_B_LAST, text), told)

    def test_the_empty_text(self):
        self.assertIs(contains(("set", "a", ((1,), (1,)), (True, False)), ""), True)
        self.assertIs(contains(("set", "a", ((1,), (1,)), (False, True)), ""), False)

    def test_texts_with_other_characters(self):
        everything = ("set", "bd", ((0, 0),), (True,))
        for text in ("a", "c", "e", "B", " ", "bc", "cb", "b b", "bd\n", "b\u00e4", "(", "bdbdz"):
            self.assertIs(contains(everything, text), False)
        self.assertIs(contains(everything, "bddb"), True)

    def test_machines_that_are_not_least(self):
        given = ("set", "ab", ((1, 2), (0, 2), (3, 3), (3, 3)), (False, False, True, False))
        for text in texts("ab", 6):
            self.assertIs(contains(given, text), read(given, text))


class Shortest(unittest.TestCase):
    def test_the_first_text(self):
        self.assertEqual(shortest(ONLY_B_LAST), "b")
        self.assertEqual(shortest(("set", "ab", ((1, 2), (3, 4), (4, 3), (3, 3), (4, 4)),
                                   (False, False, False, False, True))), "ab")

    def test_shorter_texts_are_ahead_of_lesser_ones(self):
        # The texts aa and b.
        self.assertEqual(shortest(("set", "ab", ((1, 2), (2, 3), (3, 3), (3, 3)), (False, False, True, False))), "b")

    def test_letters_that_are_not_the_first_ones(self):
        self.assertEqual(shortest(("set", "xz", ((0, 1), (2, 1), (2, 2)), (False, False, True))), "zx")

    def test_the_empty_text(self):
        self.assertEqual(shortest(("set", "a", ((0,),), (True,))), "")

    def test_none(self):
        self.assertIsNone(shortest(("set", "a", ((0,),), (False,))))
        self.assertIsNone(shortest(("set", "ab", ((1, 0), (0, 1), (0, 1)), (False, False, True))))

    def test_machines_at_random(self):
        chance = random.Random(3)
        for _ in range(300):
            letters = chance.choice(("a", "ab", "bcd"))
            given = any_machine(chance, letters, chance.randrange(1, 6))
            first = [text for text in texts(letters, 5) if read(given, text)][:1]
            self.assertEqual([shortest(given)], first or [None])
