import random
import unittest

from plainly import BINARY, LEAVES, UNARY, any_tree, deep_tree, eithers, first_wrong, nested
from threescribes.errors import BadSign, Unexpected
from threescribes.settexts import parse_set, print_set

A, B, C = ("letter", "a"), ("letter", "b"), ("letter", "c")
SIGNS = ".()[]|*+?!"


def one_of_each():
    """Trees of each kind with the smallest trees in them."""
    return list(LEAVES) + [(name, A) for name in UNARY] + [(name, A, B) for name in BINARY]


class Printing(unittest.TestCase):
    def check(self, *pairs):
        for tree, text in pairs:
            with self.subTest(text=text):
                self.assertEqual(print_set(tree), text)
                self.assertEqual(parse_set(text), tree)

    def test_the_example(self):
        self.check((("star", ("or", A, ("not", ("any",)))), "(a|!.)*"))

    def test_each_tree(self):
        self.check((A, "a"), (("letter", "z"), "z"), (("any",), "."), (("nothing",), "()"), (("never",), "[]"),
                   (("or", A, B), "a|b"), (("row", A, B), "ab"), (("star", A), "a*"), (("plus", A), "a+"),
                   (("maybe", A), "a?"), (("not", A), "!a"))

    def test_parts_from_the_left(self):
        self.check((("or", ("or", A, B), C), "a|b|c"), (("or", A, ("or", B, C)), "a|(b|c)"),
                   (("row", ("row", A, B), C), "abc"), (("row", A, ("row", B, C)), "a(bc)"))

    def test_parentheses_around_an_or(self):
        either = ("or", A, B)
        self.check((("row", either, C), "(a|b)c"), (("row", C, either), "c(a|b)"), (("star", either), "(a|b)*"),
                   (("plus", either), "(a|b)+"), (("maybe", either), "(a|b)?"), (("not", either), "!(a|b)"))

    def test_parentheses_around_a_row(self):
        both = ("row", A, B)
        self.check((("star", both), "(ab)*"), (("plus", both), "(ab)+"), (("maybe", both), "(ab)?"),
                   (("not", both), "!(ab)"), (("or", both, C), "ab|c"), (("or", C, both), "c|ab"))

    def test_parentheses_around_a_not(self):
        no = ("not", A)
        self.check((("star", no), "(!a)*"), (("plus", no), "(!a)+"), (("maybe", no), "(!a)?"), (("not", no), "!!a"),
                   (("row", no, B), "!ab"), (("row", B, no), "b!a"), (("or", no, B), "!a|b"), (("or", B, no), "b|!a"),
                   (("not", ("star", A)), "!a*"), (("not", ("not", ("maybe", A))), "!!a?"))

    def test_no_parentheses_around_the_others(self):
        self.check((("star", ("star", A)), "a**"), (("maybe", ("plus", ("star", A))), "a*+?"),
                   (("star", ("nothing",)), "()*"), (("plus", ("never",)), "[]+"), (("not", ("nothing",)), "!()"),
                   (("row", ("nothing",), ("never",)), "()[]"), (("or", ("any",), ("nothing",)), ".|()"),
                   (("row", ("star", A), ("plus", B)), "a*b+"))


class ThereAndBack(unittest.TestCase):
    def check(self, tree):
        text = print_set(tree)
        self.assertEqual(parse_set(text), tree, text)
        if len(text) < 16:
            self.assertEqual(eithers(text), [tree])
        return text

    def test_each_tree_within_each_other_one(self):
        for part in one_of_each():
            for name in UNARY:
                self.check((name, part))
            for other in one_of_each():
                for name in BINARY:
                    self.check((name, part, other))

    def test_three_trees_within_each_other(self):
        for part in one_of_each():
            for inner in UNARY + BINARY:
                for middle in [(inner, part)] if inner in UNARY else [(inner, part, C), (inner, C, part)]:
                    for outer in UNARY:
                        self.check((outer, middle))
                    for outer in BINARY:
                        self.check((outer, middle, C))
                        self.check((outer, C, middle))

    def test_no_parentheses_too_many(self):
        chance = random.Random(7)
        for _ in range(300):
            text = self.check(any_tree(chance, 5))
            for place, sign in enumerate(text):
                if sign == "(" and text[place + 1] != ")":
                    level, end = 1, place + 1
                    while level:
                        level += (text[end] == "(") - (text[end] == ")")
                        end += 1
                    without = text[:place] + text[place + 1:end - 1] + text[end:]
                    self.assertNotEqual(parse_set(without), parse_set(text), text)

    def test_deep_trees(self):
        chance = random.Random(8)
        for _ in range(100):
            tree = deep_tree(chance, 30)
            self.assertEqual(nested(tree), 30)
            self.check(tree)
        for name in UNARY:
            tree = A
            for _ in range(29):
                tree = (name, tree)
            self.check(tree)
        for name in BINARY:
            left = right = A
            for _ in range(29):
                left, right = (name, left, B), (name, B, right)
            self.check(left)
            self.assertEqual(self.check(right).count("("), 28)

    def test_trees_somewhat_deeper(self):
        chance = random.Random(9)
        for _ in range(20):
            self.check(deep_tree(chance, 100))

    def test_what_is_given_stays(self):
        tree = ("star", ("or", A, ("not", ("any",))))
        print_set(tree)
        self.assertEqual(tree, ("star", ("or", ("letter", "a"), ("not", ("any",)))))


class Reading(unittest.TestCase):
    def test_more_parentheses_than_are_needed(self):
        for text, plain in (("(a)", "a"), ("((a))", "a"), ("(a)(b)", "ab"), ("(ab)c", "abc"), ("(a|b)|c", "a|b|c"),
                            ("(a*)*", "a**"), ("!(a*)", "!a*"), ("(!a)b", "!ab"), ("(())", "()"), ("([])", "[]"),
                            ("(.)*", ".*"), ("((a)|((b)))", "a|b"), ("!(!(a))", "!!a"), ("(a|b)", "a|b")):
            self.assertEqual(parse_set(text), parse_set(plain), text)

    def test_what_stands_for_what(self):
        self.assertEqual(parse_set("!ab"), ("row", ("not", A), B))
        self.assertEqual(parse_set("!a*"), ("not", ("star", A)))
        self.assertEqual(parse_set("(!a)*"), ("star", ("not", A)))
        self.assertEqual(parse_set("a!b+c"), ("row", ("row", A, ("not", ("plus", B))), C))
        self.assertEqual(parse_set("ab|c"), ("or", ("row", A, B), C))
        self.assertEqual(parse_set("a(b|c)*?"), ("row", A, ("maybe", ("star", ("or", B, C)))))

    def test_each_letter(self):
        for letter in "abcdefghijklmnopqrstuvwxyz":
            self.assertEqual(parse_set(letter), ("letter", letter))

    def test_deep_parentheses(self):
        for deep in (60, 100):
            self.assertEqual(parse_set("(" * deep + "a" + ")" * deep), A)
            self.assertEqual(parse_set("(" * deep + "()" + ")" * deep), ("nothing",))
            tree = A
            for _ in range(deep):
                tree = ("not", ("row", B, tree))
            self.assertEqual(parse_set("!(b" * deep + "a" + ")" * deep), tree)

    def test_long_texts(self):
        many = 3000
        for text, name in (("a" * many, "row"), ("a" + "|a" * (many - 1), "or")):
            tree = parse_set(text)
            self.assertEqual(print_set(tree), text)
            for _ in range(many - 1):
                self.assertEqual((tree[0], tree[2]), (name, A))
                tree = tree[1]
            self.assertEqual(tree, A)
        for text in ("!" * many + "a", "a" + "*" * many):
            self.assertEqual(print_set(parse_set(text)), text)

    def test_texts_by_the_grammar(self):
        chance = random.Random(10)
        right = 0
        for _ in range(4000):
            text = "".join(chance.choice("ab.()()||[]*+?!!") for _ in range(chance.randrange(8)))
            trees = eithers(text)
            if trees:
                right += 1
                self.assertEqual([parse_set(text)], trees)
            else:
                with self.assertRaises(Unexpected) as caught:
                    parse_set(text)
                self.assertEqual(caught.exception.place, first_wrong(text), text)
        self.assertGreater(right, 200)


class Mistakes(unittest.TestCase):
    def check(self, error, *pairs):
        for text, place in pairs:
            with self.subTest(text=text):
                with self.assertRaises(error) as caught:
                    parse_set(text)
                self.assertIs(caught.exception.__class__, error)
                self.assertEqual(caught.exception.place, place)

    def test_the_examples(self):
        self.check(Unexpected, ("a|*", 2), ("[a", 1), ("a(b", 3), ("a)", 1))

    def test_the_empty_text(self):
        self.check(Unexpected, ("", 0))

    def test_texts_cut_short(self):
        self.check(Unexpected, ("(", 1), ("[", 1), ("!", 1), ("a|", 2), ("a|b|", 4), ("(a", 2), ("(a|", 3), ("((a)", 4),
                   ("a!", 2), ("a[", 2), ("!!", 2), ("(()", 3), ("([]", 3), ("(!", 2), ("a*(", 3))

    def test_signs_in_wrong_places(self):
        self.check(Unexpected, ("|", 0), ("*", 0), ("+", 0), ("?", 0), (")", 0), ("]", 0), ("|a", 0), ("a||b", 2),
                   ("(|a)", 1), ("(*a)", 1), ("(a|)", 3), ("!*", 1), ("!|a", 1), ("!)", 1), ("(!)", 2), ("a]", 1),
                   ("[]]", 2), ("[)", 1), ("[[]]", 1), ("[(", 1), ("(]", 1), ("())", 2), ("(a))b", 3), ("a(b|+)", 4),
                   ("a|)", 2), ("[|]", 1), ("[!]", 1), ("a(b]c)", 3))

    def test_only_the_first_mistake_counts(self):
        self.check(Unexpected, ("a|*|*)", 2), ("))((", 0), ("a)b)", 1), ("(a|*", 3), ("[a(", 1))

    def test_foreign_characters(self):
        foreign = "A Z 0 9 _ - , { } \" ' / \\ ^ $ & ~ @ ` \n \t \u00e4 \u00df \u03b1 \u0430 \uff41 \U0001d41a"
        for sign in foreign.split(" "):
            self.check(BadSign, (sign, 0), ("a" + sign, 1), ("(a|" + sign + ")", 3))
        self.check(BadSign, (" ", 0), ("a b", 1), ("a ", 1), ("a|b|C", 4), ("a{", 1), ("\U0001d41a\u00e4", 0))

    def test_foreign_characters_ahead_of_another_mistake(self):
        self.check(BadSign, ("a#)", 1), ("A|*", 0), (" a(b", 0), ("a b|", 1))

    def test_foreign_characters_behind_another_mistake(self):
        self.check(BadSign, ("a)#", 2), ("|*A", 2), ("[a b", 2), ("a(b#", 3), ("*** ", 3), ("a||b c d", 4))

    def test_short_texts_by_the_grammar(self):
        signs = "a" + SIGNS
        for text in [x + y + z for x in signs for y in signs for z in signs]:
            if not eithers(text):
                self.check(Unexpected, (text, first_wrong(text)))
            else:
                self.assertEqual([parse_set(text)], eithers(text))
