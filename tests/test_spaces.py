import random
import unittest

import plainpapers as plain
from plainboxes import any_boxes, any_news, any_row, put, some_boxes, some_of
from threescribes.spaces import (class_pairs, end_number, node_steps, number_of, step_vector, vector_of, weight_of,
                                 written)

WORDS = ("", "a", "z", "ab", "zzz", "hello", "q" * 12)


def any_tuple(chance, many, size=50):
    return tuple(chance.randrange(-size, size + 1) for _ in range(3 ** many))


class Numbers(unittest.TestCase):
    def test_the_empty_value_and_letters(self):
        self.assertEqual((number_of(""), weight_of("")), (0, 1))
        self.assertEqual([number_of(sign) for sign in "abz"], [1, 2, 26])
        self.assertEqual([weight_of(sign) for sign in "abz"], [27, 27, 27])
        self.assertEqual((number_of("ba"), weight_of("ba")), (55, 729))

    def test_long_values(self):
        value = "thequickbrownfox" * 60
        self.assertEqual(number_of(value), plain.number(value))
        self.assertEqual(weight_of(value), 27 ** len(value))

    def test_one_value_followed_by_another_one(self):
        for u in WORDS:
            for v in WORDS:
                self.assertEqual(number_of(u + v), number_of(u) * weight_of(v) + number_of(v))
                self.assertEqual(weight_of(u + v), weight_of(u) * weight_of(v))

    def test_different_values_have_different_numbers(self):
        values = [x + y + z for x in " az" for y in " az" for z in " abz"]
        values = sorted({value.replace(" ", "") for value in values})
        self.assertEqual(len({number_of(value) for value in values}), len(values))


class Vectors(unittest.TestCase):
    def test_few_values(self):
        self.assertEqual(vector_of(()), (1,))
        self.assertEqual(vector_of(("",)), (1, 1, 0))
        self.assertEqual(vector_of(("ab",)), (1, 729, 29))
        self.assertEqual(vector_of(("a", "bc")), (1, 729, 57, 27, 27 * 729, 27 * 57, 1, 729, 57))

    def test_each_member_by_the_digits_of_its_index(self):
        chance = random.Random(110)
        for many in range(5):
            values = tuple(chance.choice(WORDS) for _ in range(many))
            self.assertEqual(vector_of(values), plain.vector(values))


class Steps(unittest.TestCase):
    def check(self, news, values):
        self.assertEqual(step_vector(vector_of(values), news), vector_of(tuple(put(row, values) for row in news)))

    def test_on_vectors_of_values(self):
        chance = random.Random(111)
        for _ in range(200):
            many = chance.randrange(5)
            values = tuple(chance.choice(WORDS) for _ in range(many))
            self.check(any_news(chance, many), values)
            row = any_row(chance, some_of(chance, many, 0.3))
            self.assertEqual(end_number(vector_of(values), row), number_of(put(row, values)))

    def test_named_news(self):
        self.check((), ())
        self.check(((),), ("abc",))
        self.check((("x",),), ("abc",))
        self.check(((0,),), ("abc",))
        self.check((("x", 0, "yz"),), ("abc",))
        self.check(((1,), (0,)), ("abc", "d"))
        self.check(((1, "a", 0), ()), ("abc", "d"))
        self.check(((), (0, 1)), ("abc", ""))
        self.check(((2, 0, "x", 1), ("y",), ()), ("abc", "d", "zz"))
        self.assertEqual(step_vector((1,), ()), (1,))

    def test_on_any_tuples(self):
        chance = random.Random(112)
        for _ in range(200):
            many = chance.randrange(4)
            news = any_news(chance, many, chance.choice((0, 0.5)))
            old = any_tuple(chance, many, chance.choice((3, 10 ** 40)))
            self.assertEqual(step_vector(old, news), plain.image(old, news))
            row = any_row(chance, some_of(chance, many, 0.3))
            self.assertEqual(end_number(old, row), plain.end(old, row, many))

    def test_linear(self):
        chance = random.Random(113)
        for _ in range(50):
            many = chance.randrange(4)
            news = any_news(chance, many)
            row = any_row(chance, some_of(chance, many, 0.3))
            x, y = any_tuple(chance, many), any_tuple(chance, many, 10 ** 30)
            a, b = chance.randrange(-9, 10), chance.randrange(-9, 10)
            both = tuple(a * p + b * q for p, q in zip(x, y))
            images = zip(step_vector(x, news), step_vector(y, news))
            self.assertEqual(step_vector(both, news), tuple(a * p + b * q for p, q in images))
            self.assertEqual(end_number(both, row), a * end_number(x, row) + b * end_number(y, row))

    def test_ends(self):
        self.assertEqual(end_number((1,), ()), 0)
        self.assertEqual(end_number((5,), ("ab",)), 145)
        self.assertEqual(end_number(vector_of(("ab", "c", "d")), (2, "x", 0)), number_of("dxab"))
        self.assertEqual(end_number((2, 3, 7), ("a", 0)), 10)
        self.assertEqual(end_number((0,) * 9, (1, "x", 0)), 0)

    def test_ends_of_many_boxes(self):
        values = ("ab", "c", "", "dd", "e", "fg", "h")
        for many in range(8):
            row = tuple(range(many - 1, -1, -1)) + ("z",)
            self.assertEqual(end_number(vector_of(values[:many]), row), number_of("".join(values[:many][::-1]) + "z"))
            self.assertEqual(end_number(vector_of(values[:many]), row[-2:]), number_of("".join(values[:1][:many]) + "z"))


# Over "ab": class 1 is that of rests that begin with a, 2 that of those that begin with b.
FIRST = ("boxes", "ab", ((1, 2), (1, 2), (1, 2)), 1,
         ((((0, ((0, "a"),)), None, (0, ((0, "b"),))), ((1, ((0,),)), (1, ((0, "x"),)), None)),
          ((None, None, None), ((1, ((),)), (1, ((),)), (0, ((),))))), ((0,), None))
ONE = ("boxes", "ab", ((0, 0),), 0, ((((0, ()),), (None,)),), (("w",),))


class Nodes(unittest.TestCase):
    def test_class_pairs(self):
        self.assertEqual(class_pairs(ONE, ONE), ((0, 0),))
        self.assertEqual(class_pairs(FIRST, ONE), ((0, 0), (1, 0), (2, 0)))
        self.assertEqual(class_pairs(ONE, FIRST), ((0, 0), (0, 1), (0, 2)))
        # A rest has one first letter, so not all pairs of classes are class pairs.
        self.assertEqual(class_pairs(FIRST, FIRST), ((0, 0), (1, 1), (2, 2)))
        # Class 1 of this one is met by no rest.
        lone = ("boxes", "a", ((0,), (0,)), 0, (((None, None),),), ((),))
        self.assertEqual(class_pairs(lone, lone), ((0, 0),))

    def test_steps(self):
        self.assertEqual(node_steps(FIRST, ONE, (0, 0, 0, 0)), ())
        self.assertEqual(node_steps(FIRST, ONE, (0, 1, 0, 0)), (
            ((0, 0, 0), (0, 0, 0, 0)), ((0, 1, 0), (-1, 1, 0, 0)), ((0, 2, 0), (0, 2, 0, 0))))
        self.assertEqual(node_steps(FIRST, ONE, (0, 2, 0, 0)), (
            ((1, 0, 0), (1, 0, -1, 0)), ((1, 1, 0), (1, 1, -1, 0)), ((1, 2, 0), None)))
        self.assertEqual(node_steps(FIRST, ONE, (-1, 2, 0, 0)), (((1, 0, 0), None), ((1, 1, 0), None), ((1, 2, 0), None)))
        self.assertEqual(node_steps(FIRST, ONE, (1, 1, -1, 0)), (((0, 0, 0), None), ((0, 1, 0), None), ((0, 2, 0), None)))
        self.assertEqual(node_steps(ONE, ONE, (0, 0, -1, 0)), (((0, 0, 0), (0, 0, -1, 0)), ((1, 0, 0), None)))
        self.assertEqual(node_steps(ONE, ONE, (0, 0, 0, 0)), (((0, 0, 0), (0, 0, 0, 0)), ((1, 0, 0), None)))

    def test_machines_at_random(self):
        chance = random.Random(114)
        for _ in range(100):
            one = some_boxes(chance, ("a", "ab", "abc"))
            other = any_boxes(chance, one[1], chance.randrange(1, 4), chance.randrange(1, 4), 1)
            pairs = class_pairs(one, other)
            self.assertEqual(list(pairs), plain.pairs_of(one, other))
            for c, d in pairs:
                p, q = chance.choice([(p, q) for p in range(-1, len(one[5])) for q in range(-1, len(other[5])) if (p, q) != (-1, -1)])
                steps = node_steps(one, other, (p, c, q, d))
                self.assertEqual(list(steps), plain.steps_of(one, other, (p, c, q, d)))
                self.assertIsInstance(steps, tuple)


class Writings(unittest.TestCase):
    def test_no_vectors(self):
        self.assertEqual(written((), (0, 0)), (1, ()))
        self.assertEqual(written((), ()), (1, ()))
        self.assertIsNone(written((), (0, 1)))

    def test_named_ones(self):
        x, y, z = (1, 2, 0), (0, 3, 1), (5, 0, 0)
        self.assertEqual(written((x, y, z), y), (1, (0, 1, 0)))
        self.assertEqual(written((x, y), (1, 5, 1)), (1, (1, 1)))
        self.assertEqual(written((x, y), (0, 0, 0)), (1, (0, 0)))
        self.assertEqual(written(((2, 4, 0),), (1, 2, 0)), (2, (1,)))
        self.assertEqual(written(((2, 4, 0),), (-3, -6, 0)), (2, (-3,)))
        self.assertEqual(written(((2, 4, 0),), (4, 8, 0)), (1, (2,)))
        self.assertEqual(written(((6, 0), (0, 10)), (4, 4)), (15, (10, 6)))
        self.assertIsNone(written((x, y), (0, 0, 1)))
        self.assertIsNone(written(((2, 4, 0),), (2, 4, 1)))
        self.assertEqual(written(((-3, 0),), (2, 0)), (3, (-2,)))

    def test_vectors_at_random(self):
        chance = random.Random(115)
        inside = outside = 0
        for _ in range(600):
            length = chance.randrange(1, 7)
            size = chance.choice((1, 3, 10 ** 25))
            vectors = ()
            for _ in range(chance.randrange(length + 1)):
                new = tuple(chance.randrange(-size, size + 1) for _ in range(length))
                if written(vectors, new) is None:
                    vectors += (new,)
            parts = [chance.randrange(-size, size + 1) for _ in vectors]
            vector = tuple(sum(part * other[at] for part, other in zip(parts, vectors)) for at in range(length))
            common = plain.divisor(vector)
            if common > 1 and chance.random() < 0.7:
                vector = tuple(member // common for member in vector)
            elif chance.random() < 0.3:
                vector = tuple(member + chance.randrange(2) for member in vector)
            found = written(vectors, vector)
            if found is None:
                outside += 1
                self.assertTrue(is_outside(vectors, vector))
            else:
                inside += 1
                self.assertTrue(plain.writes(found, vectors, vector))
                self.assertEqual(plain.divisor((found[0],) + found[1]), 1)
        self.assertGreater(inside, 200)
        self.assertGreater(outside, 40)

    def test_what_is_given_stays(self):
        vectors = ((1, 2), (0, 3))
        news = ((1,), (0, "a"))
        written(vectors, (4, 4))
        step_vector((1,) * 9, news)
        self.assertEqual((vectors, news), (((1, 2), (0, 3)), ((1,), (0, "a"))))


def is_outside(vectors, vector):
    """Whether there is one more among the rows with a leading member when the vector is added, by Fraction."""
    return rank(vectors + (vector,)) == rank(vectors) + 1


def rank(vectors):
    from fractions import Fraction
    rows = [[Fraction(member) for member in vector] for vector in vectors]
    many = 0
    for at in range(len(rows[0]) if rows else 0):
        found = next((row for row in rows[many:] if row[at] != 0), None)
        if found is not None:
            rows.remove(found)
            rows = [[x - y * row[at] / found[at] for x, y in zip(row, found)] if place >= many else row
                    for place, row in enumerate(rows)]
            rows.insert(many, found)
            many += 1
    return many
