import random
import unittest

from plainly import texts
from plainterms import any_term
from plainvalues import SETS, term, value, width
from threescribes.boxes import is_boxes, run_boxes
from threescribes.build import boxes_of
from threescribes.meaning import value_of

LONGEST = {1: 9, 2: 6, 3: 4, 4: 3, 5: 3, 6: 2}


class Machines(unittest.TestCase):
    def check(self, tree, letters, chance=None, longest=None):
        """Holds the machine of a term against the term at all short texts, and at some long ones."""
        machine = boxes_of(tree, letters)
        self.assertTrue(is_boxes(machine))
        self.assertEqual(machine[1], letters)
        self.assertLessEqual(machine[3], width(tree), tree)
        found = 0
        for text in texts(letters, LONGEST[len(letters)] if longest is None else longest):
            expected = value_of(tree, letters, text)
            found += expected is not None
            self.assertEqual(run_boxes(machine, text), expected, (tree, letters, text))
        for many in (15, 30):
            text = "".join((chance or random.Random(many)).choice(letters) for _ in range(many))
            self.assertEqual(run_boxes(machine, text), value_of(tree, letters, text), (tree, letters, text))
        return found

    def check_texts(self, *pairs):
        for text in pairs:
            with self.subTest(term=text):
                for letters in ("a", "ab", "abc", "bx"):
                    self.check(term(text), letters)

    def values(self, text, letters, **pairs):
        machine = boxes_of(term(text), letters)
        for word, expected in pairs.items():
            self.assertEqual(run_boxes(machine, word.strip("_")), expected, (text, word))

    def test_the_example(self):
        self.values("chain({a*b}, back(copy({.})))", "ab", ababaab="bababaaba", _="", b="", a=None)
        self.check_texts("chain({a*b}, back(copy({.})))")

    def test_word_and_copy(self):
        self.check_texts('word("w", {.*})', 'word("", {a*b})', 'word("xy", {[]})', 'word("b", {()})', "copy({.*})", "copy({a*b})",
                         "copy({[]})", "copy({()})", "copy({.*a.})", "copy({!(a|b)})", "copy({(..)*|b})", "copy({.*b.b})")

    def test_pick(self):
        self.check_texts('pick({a*}, word("x", {.*a}), copy({.*b}))', 'pick({()}, word("x", {.*}), word("y", {.*}))',
                         'pick({.*a}, both(copy({.*}), copy({.*})), copy({.*}))', "pick({.*}, copy({a}), copy({.*}))",
                         "pick({[]}, copy({a}), copy({.*}))", 'pick({.*b}, word("", {.*}), copy({[]}))')

    def test_both(self):
        self.check_texts("both(copy({.*}), copy({.*}))", 'both(word("x", {.*a}), copy({.*}))', 'both(copy({a.*}), word("x", {.*b}))',
                         'both(word("x", {.*}), word("y", {.+}))', "both(both(copy({.*}), copy({a*})), copy({.?.?}))")

    def test_cut(self):
        self.check_texts("cut(copy({a*}), copy({b*}))", "cut(copy({.}), copy({.*}))", "cut(copy({.*}), copy({.}))",
                         "cut(copy({.*a}), copy({b*}))", "cut(copy({a*}), copy({b.*}))", 'cut(word("x", {.*b}), word("y", {a*}))')

    def test_cuts_at_either_end(self):
        self.check_texts("cut(copy({()}), copy({.*}))", "cut(copy({.*}), copy({()}))", 'cut(word("x", {()}), word("y", {()}))',
                         'cut(word("x", {()}), copy({a*}))', 'cut(copy({a*}), word("x", {()}))', 'cut(copy({a?}), word("x", {b?}))',
                         'cut(pick({()}, word("x", {()}), copy({a})), pick({()}, word("y", {()}), copy({b})))',
                         'cut(both(copy({()|ab}), word("x", {.*})), copy({.|b.}))')

    def test_ambiguous_ways(self):
        self.check_texts("cut(copy({a*}), copy({a*}))", 'cut(word("", {.*}), word("", {.*}))', "cut(copy({a|ab}), copy({b*|bb}))",
                         "each(copy({a|aa}))", "back(copy({a|ab|ba|b}))", "each(copy({a+}))", "each(copy({.*}))", "back(copy({.+b}))",
                         "chain({a|aa}, copy({.*}))", "chain({a|ab|b}, copy({.*}))", "chain({.*}, copy({.*}))",
                         "each(copy({a|bb|abb}))", "chain({a|bb|abb}, copy({.*}))")

    def test_each_and_back(self):
        for name in ("each", "back"):
            self.check_texts(*[name + "(" + inner + ")" for inner in (
                "copy({.})", "copy({a*b})", "copy({()})", "copy({[]})", "copy({.*b|()})", 'word("x", {a*b})', 'word("", {ab|ba})',
                'pick({()}, word("x", {.*}), copy({a|b.}))', "both(copy({.}), copy({a}))", "both(copy({a*b}), copy({.*}))",
                "copy({..})", "copy({a|b.})", 'pick({a}, word("xy", {.}), copy({.}))')])

    def test_chain(self):
        self.check_texts("chain({.}, copy({..}))", "chain({.}, copy({ab|ba}))", "chain({.}, copy({.*a.*}))", "chain({a*b}, copy({.*}))",
                         'chain({a*b}, word("x", {.*}))', "chain({..}, copy({.*}))", "chain({.}, copy({[]}))", "chain({[]}, copy({.*}))",
                         "chain({()}, copy({.*}))", "chain({a|b.}, copy({.*}))", 'chain({.}, pick({aa}, word("x", {.*}), copy({ab|ba})))',
                         "chain({a*b}, both(copy({.*}), copy({.*})))", "chain({a*b}, copy({(..)*}))", "chain({a*b}, copy({.|..|...}))")

    def test_chains_with_unlike_numbers_of_boxes(self):
        # Two plans run side by side, and each has more boxes at one piece than at the other one.
        self.check_texts("chain({a*b}, cut(copy({a*b}), back(copy({.}))))", "chain({.}, cut(copy({.}), both(copy({.}), copy({.}))))",
                         "chain({a*b}, cut(both(copy({a*b}), copy({.*})), copy({a*b})))", 'chain({a*b}, cut(word("x", {a*b}), copy({a*b})))',
                         'chain({a*b}, cut(copy({a*b}), word("x", {a*b})))', "chain({..}, cut(back(copy({.})), copy({b.})))",
                         "chain({a*b}, back(cut(back(copy({a})), copy({b}))))")

    def test_then(self):
        self.check_texts("then(copy({.*}), copy({a*}))", "then(both(copy({.*}), copy({.*})), back(copy({.})))",
                         "then(each(both(copy({.}), copy({.}))), back(copy({.})))", "then(back(copy({.})), both(copy({.*}), copy({a*b*})))",
                         'then(word("ab", {.*}), back(copy({.})))', 'then(copy({.*}), word("x", {a*}))', 'then(word("c", {a*}), copy({.*}))',
                         'then(pick({a*}, word("x", {.*}), copy({.*})), copy({.*}))', "then(both(copy({.*}), copy({.*})), copy({(....)*}))",
                         "then(both(copy({.*}), back(copy({.}))), each(copy({a*b})))", "then(back(copy({a*b})), each(copy({ba*})))",
                         "then(each(pick({a}, word(\"ab\", {.}), word(\"b\", {.}))), chain({a*b}, copy({.*})))",
                         "then(both(copy({.*}), copy({.*})), both(copy({.*}), back(copy({.}))))",
                         "then(then(back(copy({.})), each(both(copy({.}), copy({.})))), cut(copy({a*}), copy({b.*})))")

    def test_each_term_within_each_other_one(self):
        inner = ['word("a", {.*b})', "copy({.*})", "copy({a*b})", "pick({a}, copy({.}), word(\"b\", {.}))", "both(copy({.}), copy({.*}))",
                 "cut(copy({a*}), copy({b}))", "each(copy({a*b}))", "back(copy({.}))", "chain({.}, copy({..}))",
                 "then(both(copy({.*}), copy({.*})), back(copy({.})))", 'pick({()}, word("x", {.*}), copy({a|b}))']
        for one in inner:
            for outer in ("each(%s)", "back(%s)", "chain({.}, %s)", "chain({a*b}, %s)", "cut(%s, copy({.*b}))", "cut(copy({a?}), %s)",
                          "both(%s, copy({.*}))", "both(copy({.*}), %s)", "pick({.*b}, %s, copy({.}))", "pick({.*b}, copy({.}), %s)",
                          "then(%s, back(copy({.})))", "then(back(copy({.})), %s)"):
                tree = term(outer % one)
                for letters, longest in (("a", 6), ("ab", 5)):
                    self.check(tree, letters, longest=longest)

    def test_terms_of_two_levels_at_random(self):
        chance = random.Random(70)
        found = sum(self.check(any_term(chance, 2, SETS), chance.choice(("a", "ab", "abc")), chance) for _ in range(150))
        self.assertGreater(found, 2000)

    def test_terms_of_three_levels_at_random(self):
        chance = random.Random(71)
        found = sum(self.check(any_term(chance, 3, SETS), chance.choice(("a", "ab", "abc")), chance) for _ in range(200))
        self.assertGreater(found, 2000)

    def test_terms_of_four_levels_at_random(self):
        chance = random.Random(72)
        for _ in range(100):
            self.check(any_term(chance, 4, SETS), chance.choice(("a", "ab", "abc")), chance, 4)

    def test_terms_with_any_sets(self):
        chance = random.Random(73)
        for _ in range(100):
            self.check(any_term(chance, 3), chance.choice(("a", "ab", "bcx", "abcdef")), chance, 3)

    def test_against_the_plain_values(self):
        chance = random.Random(74)
        for _ in range(60):
            tree = any_term(chance, 3, SETS)
            machine = boxes_of(tree, "ab")
            for text in texts("ab", 5):
                self.assertEqual(run_boxes(machine, text), value(tree, "ab", text), (tree, text))

    def test_deep_terms(self):
        letter, some, word = term("copy({.})"), term("copy({.*b})"), term('word("x", {.*})')
        for wrap in (lambda tree, at: ("each", tree), lambda tree, at: ("back", tree), lambda tree, at: ("chain", SETS[at % 2], tree),
                     lambda tree, at: ("pick", SETS[at % 11], tree, some), lambda tree, at: ("pick", SETS[at % 11], some, tree),
                     lambda tree, at: ("both", tree, word), lambda tree, at: ("both", word, tree), lambda tree, at: ("cut", tree, letter),
                     lambda tree, at: ("cut", letter, tree), lambda tree, at: ("then", tree, ("back", letter)),
                     lambda tree, at: ("then", ("back", letter), tree)):
            for tree in (letter, term("copy({.*})")):
                for at in range(28):
                    tree = wrap(tree, at)
                self.check(tree, "ab", longest=3)

    def test_what_is_given_stays(self):
        tree = any_term(random.Random(76), 4, SETS)
        before = repr(tree)
        boxes_of(tree, "ab")
        self.assertEqual(repr(tree), before)
