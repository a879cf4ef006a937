import random
import unittest

from plainly import BINARY, LEAVES, UNARY, any_tree, deep_tree, is_least, nested, read, texts, told
from threescribes.sets import is_set, no_texts
from threescribes.settexts import parse_set, set_of

A, B, C = ("letter", "a"), ("letter", "b"), ("letter", "c")


class SetsOfTrees(unittest.TestCase):
    def check(self, tree, letters, longest=5):
        with self.subTest(tree=tree, letters=letters):
            found = set_of(tree, letters)
            self.assertTrue(is_set(found))
            self.assertEqual(found[1], letters)
            self.assertTrue(is_least(found))
            for text in texts(letters, longest):
                self.assertEqual(read(found, text), told(tree, letters, text), text)

    def test_the_example(self):
        self.assertEqual(set_of(("row", ("star", A), B), "ab"),
                         ("set", "ab", ((0, 1), (2, 2), (2, 2)), (False, True, False)))
        self.assertEqual(set_of(C, "ab"), set_of(("never",), "ab"))

    def test_each_tree_as_a_machine(self):
        dead = (2, 2)
        for tree, goals, ends in (
                (A, ((1, 2), dead, dead), (False, True, False)),
                (B, ((1, 2), (1, 1), (1, 1)), (False, False, True)),
                (("any",), ((1, 1), dead, dead), (False, True, False)),
                (("nothing",), ((1, 1), (1, 1)), (True, False)),
                (("never",), ((0, 0),), (False,)),
                (("or", A, ("nothing",)), ((1, 2), dead, dead), (True, True, False)),
                (("row", A, B), ((1, 2), (2, 3), dead, dead), (False, False, False, True)),
                (("star", A), ((0, 1), (1, 1)), (True, False)),
                (("plus", A), ((1, 2), (1, 2), dead), (False, True, False)),
                (("maybe", A), ((1, 2), dead, dead), (True, True, False)),
                (("not", ("nothing",)), ((1, 1), (1, 1)), (False, True))):
            with self.subTest(tree=tree):
                self.assertEqual(set_of(tree, "ab"), ("set", "ab", goals, ends))

    def test_letters_that_are_none_of_the_letters(self):
        self.assertEqual(set_of(C, "ab"), no_texts("ab"))
        self.assertEqual(set_of(A, "bc"), no_texts("bc"))
        for letters in ("ab", "bc", "d", "acd"):
            for tree in (C, ("or", A, C), ("row", A, C), ("star", C), ("plus", C), ("maybe", C), ("not", C)):
                self.check(tree, letters)

    def test_each_tree_within_each_other_one(self):
        small = list(LEAVES) + [("row", A, B), ("or", A, ("nothing",)), ("star", A), ("plus", ("row", A, B)),
                                ("maybe", B), ("not", A), ("not", ("any",))]
        for part in small:
            for name in UNARY:
                self.check((name, part), "ab")
            for other in small:
                for name in BINARY:
                    self.check((name, part, other), "ab")

    def test_plus_of_a_set_with_the_empty_text(self):
        self.check(("plus", ("maybe", A)), "ab")
        self.check(("plus", ("nothing",)), "ab")
        self.check(("plus", ("never",)), "ab")

    def test_letters_of_many_numbers(self):
        for letters in ("a", "abc", "abcdef"):
            self.check(("row", ("star", ("or", A, ("not", ("any",)))), ("any",)), letters, 4)

    def test_trees_at_random(self):
        chance = random.Random(5)
        for _ in range(250):
            self.check(any_tree(chance, 5), chance.choice(("a", "ab", "ab", "abc")), 4)

    def test_deep_trees(self):
        chance = random.Random(6)
        for _ in range(40):
            tree = deep_tree(chance, 30)
            self.assertEqual(nested(tree), 30)
            self.check(tree, "ab", 4)

    def test_trees_somewhat_deeper(self):
        tree = A
        for _ in range(60):
            tree = ("not", ("star", tree))
        self.check(tree, "ab", 4)

    def test_long_texts(self):
        words = ["".join("ab"[(k >> bit) & 1] for bit in range(8)) for k in range(0, 256, 2)]
        found = set_of(parse_set("|".join(words)), "ab")
        self.assertTrue(is_least(found))
        for text in texts("ab", 8):
            self.assertEqual(read(found, text), text in words)

    def test_what_is_given_stays(self):
        tree = ("row", ("star", ("or", A, ("not", B))), ("maybe", ("plus", C)))
        set_of(tree, "ab")
        self.assertEqual(tree, ("row", ("star", ("or", ("letter", "a"), ("not", ("letter", "b")))),
                                ("maybe", ("plus", ("letter", "c")))))
