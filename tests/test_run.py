import random
import unittest

from plainly import texts
from plainterms import any_term
from plainvalues import SETS, term, value
from threescribes.errors import BadSign, Unexpected
from threescribes.run import tell
from threescribes.terms import print_term


def told(text, one, other):
    """The three lines for a text (12.2)."""
    shown = ["none" if found is None else f'"{found}"' for found in (one, other)]
    return f'text "{text}"\none {shown[0]}\nother {shown[1]}'


class TwoTerms(unittest.TestCase):
    def test_the_examples(self):
        self.assertEqual(tell("ab", "copy({a*})", "copy({.*})"), 'text "b"\none none\nother "b"')
        self.assertEqual(tell("ab", "copy({(a|b)*})", "each(copy({.}))"), "alike")

    def test_alike(self):
        for one, other in (("copy({.*})", "then(back(copy({.})), back(copy({.})))"), ("copy({a*b})", "cut(copy({a*}), copy({b}))"),
                           ("copy({[]})", 'cut(word("", {[]}), copy({.*}))'), ('word("", {.*})', 'each(word("", {.}))'),
                           ("both(copy({.*}), copy({.*}))", "then(copy({.*}), both(copy({.*}), copy({.*})))")):
            self.assertEqual(tell("ab", one, other), "alike")
            self.assertEqual(tell("ab", other, one), "alike")
        self.assertEqual(tell("c", "copy({a})", "copy({[]})"), "alike")

    def test_where_they_part(self):
        for one, other, text, values in (
                ("copy({.*})", "copy({.+})", "", ("", None)), ('word("x", {.*})', 'word("y", {.*})', "", ("x", "y")),
                ("copy({.*})", "both(copy({.*}), copy({.*}))", "a", ("a", "aa")), ("copy({.*})", "back(copy({.}))", "ab", ("ab", "ba")),
                ("each(copy({aab}))", "copy({()})", "aab", ("aab", None)), ("copy({()})", "chain({a*b}, copy({.*}))", "b", (None, "")),
                ("chain({a*b}, copy({.*}))", 'word("", {()|a*b})', "bb", ("bb", None))):
            self.assertEqual(tell("ab", one, other), told(text, values[0], values[1]))
            self.assertEqual(tell("ab", other, one), told(text, values[1], values[0]))

    def test_spaces(self):
        self.assertEqual(tell("ab", "  copy ( {a*} ) ", " copy( {.*}) "), told("b", None, "b"))

    def test_letters(self):
        self.assertEqual(tell("xyz", "copy({.*})", "copy({(x|z)*})"), told("y", "y", None))
        self.assertEqual(tell("a", "copy({.*})", "back(copy({.}))"), "alike")

    def test_errors(self):
        right = "copy({a})"
        for wrong, kind, place in (("copy({a}", Unexpected, 8), ("copy({A})", BadSign, 6), ("", Unexpected, 0), ("wort", Unexpected, 3),
                                   ("copy({a}))", Unexpected, 9)):
            for one, other in ((wrong, right), (right, wrong), (wrong, wrong)):
                with self.assertRaises(kind) as met:
                    tell("ab", one, other)
                self.assertEqual(met.exception.place, place)

    def test_errors_of_the_first_one_come_first(self):
        for one, other, kind, place in (("copy({a}", "co#py", Unexpected, 8), ("co#py", "copy({a}", BadSign, 2), ("wort", "", Unexpected, 3), ("", "wort", Unexpected, 0)):
            with self.assertRaises(kind) as met:
                tell("ab", one, other)
            self.assertEqual(met.exception.place, place)

    def test_terms_at_random(self):
        chance = random.Random(170)
        alike = parted = 0
        for _ in range(200):
            one = any_term(chance, 2, SETS)
            other = any_term(chance, 2, SETS) if chance.random() < 0.5 else (chance.choice(("each", "back")), one)
            if chance.random() < 0.3:
                other = ("pick", chance.choice(SETS), one, one if chance.random() < 0.5 else other)
            found = tell("ab", print_term(one), print_term(other))
            unlike = [text for text in texts("ab", 5) if value(one, "ab", text) != value(other, "ab", text)]
            if unlike:
                self.assertEqual(found, told(unlike[0], value(one, "ab", unlike[0]), value(other, "ab", unlike[0])))
                parted += 1
            else:
                self.assertEqual(found, "alike")
                alike += 1
        self.assertGreater(alike, 20)
        self.assertGreater(parted, 80)

    def test_long_values_and_texts_that_are_not_short(self):
        one, other = "each(copy({aaaaaaab}))", "each(copy({aaaaaaab|aaaaaaabb}))"
        self.assertEqual(tell("ab", one, other), told("aaaaaaabb", None, "aaaaaaabb"))
        self.assertEqual(value(term(one), "ab", "aaaaaaabb"), None)
