import random
import unittest

from plainly import texts
from plainterms import any_term
from plainvalues import SETS, term, value
from threescribes.meaning import value_of


class Values(unittest.TestCase):
    def check(self, text, letters="ab", **pairs):
        tree = term(text)
        for word, expected in pairs.items():
            with self.subTest(term=text, text=word):
                self.assertEqual(value_of(tree, letters, word.strip("_")), expected)
        for word in texts(letters, 5):
            self.assertEqual(value_of(tree, letters, word), value(tree, letters, word), (text, word))

    def test_the_example(self):
        self.check("chain({a*b}, back(copy({.})))", ababaab="bababaaba", _="", b="", bb="bb", a=None, ba=None)

    def test_word(self):
        self.check('word("xyz", {a*b})', b="xyz", aab="xyz", a=None, _=None, bb=None)
        self.check('word("", {a*})', _="", a="", aaa="", b=None)

    def test_copy(self):
        self.check("copy({a*b})", b="b", aab="aab", a=None, _=None, bb=None)
        self.check("copy({()})", _="", a=None)
        self.check("copy({c})", "bc", c="c", b=None, _=None)
        self.check("copy({a|.b})", "bc", bb="bb", cb="cb", b=None)

    def test_pick(self):
        self.check('pick({a*}, word("x", {.*a}), copy({.*b}))', a="x", aa="x", b="b", ab="ab", _=None, ba=None)

    def test_both(self):
        self.check("both(copy({a*}), copy({.*}))", _="", a="aa", aa="aaaa", b=None)
        self.check('both(word("x", {.*}), copy({.}))', a="xa", aa=None)
        self.check('both(copy({.}), word("x", {.*}))', a="ax", aa=None)

    def test_cut(self):
        self.check('cut(word("x", {a*}), copy({b*}))', _="x", a="x", aab="xb", abb="xbb", b="xb", ba=None)
        self.check("cut(copy({.}), copy({.*}))", _=None, a="a", ab="ab", abba="abba")
        self.check('cut(copy({.*}), word("x", {.}))', _=None, a="x", ab="ax", abba="abbx")

    def test_more_than_one_way_to_cut(self):
        self.check("cut(copy({a*}), copy({a*}))", _="", a=None, aa=None, b=None)
        self.check('cut(word("x", {a*}), word("y", {a*}))', _="xy", a=None, aa=None)
        self.check('cut(word("", {.?}), word("", {.?}))', _="", a=None, ab="", abb=None)

    def test_no_way_to_cut(self):
        self.check('cut(word("x", {aa}), copy({bb}))', aabb="xbb", aab=None, abb=None, _=None)

    def test_each_and_back(self):
        self.check("each(copy({a*b}))", _="", b="b", ab="ab", abb="abb", baab="baab", a=None, ba=None)
        self.check("back(copy({a*b}))", _="", b="b", ab="ab", abb="bab", babaab="aababb", a=None, ba=None)
        self.check('each(pick({a}, word("xy", {.}), word("z", {.})))', _="", aba="xyzxy")
        self.check('back(pick({a}, word("xy", {.}), word("z", {.})))', _="", aba="xyzxy", aab="zxyxy")

    def test_pieces_in_more_than_one_way(self):
        for name in ("each", "back"):
            self.check(name + "(copy({a|aa}))", _="", a="a", aa=None, aaa=None, b=None)
            self.check(name + '(word("x", {a+}))', _="", a="x", aa=None)
            self.check(name + '(word("", {a|ab|b}))', _="", a="", b="", ab=None, ba="")

    def test_pieces_in_no_way(self):
        for name in ("each", "back"):
            self.check(name + "(copy({[]}))", _="", a=None, ab=None)
            self.check(name + "(copy({ab}))", _="", a=None, aba=None, abab="abab")

    def test_a_value_at_the_empty_text_does_not_matter_for_pieces(self):
        for name in ("each", "back"):
            self.check(name + '(pick({()}, word("x", {()}), copy({.})))', _="", a="a", bb="bb")
            self.check(name + "(copy({()}))", _="", a=None)
            self.check(name + '(word("x", {(ab)*}))', _="", ab="x", abab=None)

    def test_chain(self):
        self.check("chain({.}, copy({..}))", _="", a="", b="", ab="ab", aba="abba", abab="abbaab")
        self.check('chain({a*b}, word("x", {.*}))', _="", b="", ab="", bb="x", bab="x", bbb="xx", ababab="xx", a=None, aba=None)

    def test_chain_without_a_value_at_two_neighbours(self):
        self.check("chain({.}, copy({ab|ba}))", _="", a="", ab="ab", aba="abba", aa=None, abb=None, aab=None, abab="abbaab")
        self.check("chain({.}, copy({[]}))", _="", a="", b="", ab=None, aaa=None)
        # The value is needed at two neighbours together, not at a piece or three pieces.
        self.check("chain({.}, copy({.|...}))", _="", a="", ab=None, aba=None)

    def test_chain_in_more_than_one_way_or_none(self):
        self.check("chain({a|aa}, copy({.*}))", _="", a="", aa=None, aaa=None, b=None)
        self.check("chain({()|b}, copy({.*}))", _="", b="", bb="bb", bbb="bbbb", a=None)
        # The way is one whatever f is: only one of two ways would have values.
        self.check("chain({a|aa|b}, copy({ab}))", ab="ab", aab=None, b="")

    def test_then(self):
        self.check("then(both(copy({.*}), copy({.*})), back(copy({.})))", _="", ab="baba", aab="baabaa")
        self.check("then(copy({a*}), copy({aa}))", aa="aa", a=None, b=None, _=None)

    def test_then_with_a_letter_that_is_none_of_the_letters(self):
        self.check('then(pick({a*}, word("ab", {.*}), word("ac", {.*})), copy({.*}))', _="ab", a="ab", b=None, ab=None)
        self.check('then(word("c", {.*}), word("x", {!(a)}))', _=None, a=None)
        self.check('then(word("c", {.*}), copy({c}))', "abc", a="c")
        self.check('then(word("x", {.*}), pick({a}, copy({a}), each(copy({.}))))', _=None, a=None)

    def test_a_value_that_is_not_needed(self):
        self.check('pick({a}, copy({.*}), word("x", {[]}))', a="a", b=None)
        self.check('pick({a}, then(word("c", {.*}), copy({.*})), copy({.*}))', a=None, b="b")

    def test_letters(self):
        self.check("copy({a|bc})", "bc", bc="bc", b=None)
        self.check("each(copy({.}))", "a", _="", aaa="aaa")
        self.check('back(pick({z}, word("a", {.}), copy({.})))', "xyz", xyz="ayx", zz="aa")

    def test_terms_at_random(self):
        chance = random.Random(60)
        many = 0
        for _ in range(400):
            letters = chance.choice(("a", "ab", "abc", "bx"))
            tree = any_term(chance, 4, SETS)
            for text in texts(letters, {1: 7, 2: 5, 3: 3}[len(letters)]):
                found = value(tree, letters, text)
                many += found is not None
                self.assertEqual(value_of(tree, letters, text), found, (tree, letters, text))
        self.assertGreater(many, 2000)

    def test_terms_with_any_sets(self):
        chance = random.Random(61)
        for _ in range(200):
            tree = any_term(chance, 3)
            for text in texts("ab", 5):
                self.assertEqual(value_of(tree, "ab", text), value(tree, "ab", text), (tree, text))

    def test_what_is_given_stays(self):
        tree = any_term(random.Random(62), 5, SETS)
        before = repr(tree)
        value_of(tree, "ab", "abbab")
        self.assertEqual(repr(tree), before)


class LongTexts(unittest.TestCase):
    def check(self, text, word, expected):
        self.assertGreaterEqual(len(word), 60)
        self.assertEqual(value_of(term(text), "ab", word), expected)

    def test_cut(self):
        self.check("cut(back(copy({.})), copy({b}))", "ab" * 30, ("ba" * 30)[1:] + "b")
        self.check("cut(copy({a*}), cut(copy({b*}), copy({(a.*)?})))", "a" * 20 + "b" * 40, None)
        self.check("cut(back(copy({a})), cut(copy({b+}), back(copy({a|b}))))", "a" * 20 + "b" * 40, None)
        self.check("cut(copy({a*}), cut(copy({b+}), copy({(a.*)?})))", "aa" * 20 + "b" * 20 + "ab", "aa" * 20 + "b" * 20 + "ab")
        self.check("cut(each(copy({a*b})), each(copy({a*b})))", "aab" * 20, None)
        self.check("cut(copy({.*}), copy({.*}))", "aab" * 20, None)

    def test_each_and_back(self):
        self.check("each(both(copy({a*b}), copy({a*b})))", "aab" * 20, "aabaab" * 20)
        self.check("back(both(copy({a*b}), copy({.*})))", "aabb" * 15, "bbaabaab" * 15)
        self.check("each(copy({.*}))", "ab" * 30, None)
        self.check("each(cut(copy({a+}), word(\"x\", {b+})))", "aabbb" * 12, "aax" * 12)
        self.check("each(cut(copy({a+}), word(\"x\", {b})))", "aab" * 20, "aax" * 20)
        self.check("back(cut(each(copy({a})), back(copy({b}))))", "ab" * 30, None)

    def test_chain(self):
        self.check("chain({a*b}, back(copy({.})))", "aab" * 20, "baabaa" * 19)
        self.check("chain({.}, copy({ab|ba}))", "ab" * 30, "abba" * 29 + "ab")
        self.check("chain({.+}, copy({.*}))", "ab" * 30, None)

    def test_terms_within_terms(self):
        self.check("each(chain({a}, copy({.*})))", "a" * 60, None)
        self.check("each(cut(chain({a}, copy({.*})), word(\"\", {b})))", "aaab" * 15, "aaaa" * 15)
        self.check("back(each(copy({a*b})))", "ab" * 30, None)
        self.check("chain({a*b}, cut(each(copy({a})), cut(copy({b}), back(copy({.})))))", "aab" * 20, "aabbaa" * 19)
        self.check("then(each(both(copy({.}), copy({.}))), back(copy({..})))", "ab" * 30, "bbaa" * 30)
        self.check("each(then(both(copy({a*b}), copy({a*b})), back(copy({.}))))", "aab" * 20, "baabaa" * 20)
        self.check("back(then(both(copy({.*}), copy({.*})), cut(copy({a+}), cut(copy({b}), copy({a+b})))))", "aab" * 20, "aabaab" * 20)
        self.check("then(then(both(copy({.*}), copy({.*})), both(copy({.*}), copy({.*}))), each(copy({a*b})))", "aab" * 20, "aab" * 80)
        self.check("each(then(then(both(copy({.*}), copy({.*})), both(copy({.*}), copy({.*}))), each(copy({.}))))", "aab" * 20, None)
        self.check("each(pick({.*b}, back(copy({.})), cut(copy({.*}), copy({.*}))))", "aab" * 20, None)

    def test_deep_terms(self):
        text = "copy({.*})"
        for _ in range(29):
            text = 'pick({b}, word("", {.}), ' + text + ")"
        self.check(text, "ab" * 30, "ab" * 30)
        text = "copy({.})"
        for at in range(28):
            text = ("each(" if at % 2 else "back(") + text + ")"
        # All texts are cut into letters, so none but letters alone are cut into such texts.
        self.check(text, "ab" * 30, None)
        self.check("each(" + text + ")", "ab" * 30, "ab" * 30)
        text = "copy({.*})"
        for _ in range(29):
            text = "then(" + text + ", back(copy({.})))"
        self.check(text, "ab" * 30, "ba" * 30)
