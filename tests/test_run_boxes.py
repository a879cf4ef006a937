import random
import unittest

from plainboxes import any_boxes, run, some_boxes
from plainly import is_least, read, texts
from threescribes.boxes import domain_of, is_boxes, read_from_left, read_from_right, run_boxes
from threescribes.sets import all_texts, is_set, no_texts
from threescribes.settexts import parse_set, set_of

EXAMPLE = ("boxes", "ab", ((0, 0),), 1, ((((0, ((0, "x"),)),), ((0, (("y", 0),)),)),), ((0,),))

# Class 0 is that of the empty rest, class 1 that of all others.
MORE = ((1, 1), (1, 1))
# Classes tell the first letter of the rest: none, a, b.
FIRST = ((1, 2), (1, 2), (1, 2))


def simple(ahead, *entries, end=(0,), many=1):
    """A machine over "ab" with one state, with these entries for the classes and the letters a and b."""
    return ("boxes", "ab", ahead, many, (entries,), (end,))


class Values(unittest.TestCase):
    def check(self, machine, **pairs):
        self.assertTrue(is_boxes(machine))
        for text, value in pairs.items():
            with self.subTest(text=text):
                self.assertEqual(run_boxes(machine, text.strip("_")), value)

    def test_the_example(self):
        self.check(EXAMPLE, aabba="yyxxx", _="", a="x", b="y", ab="yx", ba="yx", bbbb="yyyy")

    def test_entries_that_depend_on_the_class_of_the_rest(self):
        last = (0, ((0, "z"),))
        machine = simple(MORE, (last, (0, ((0, "a"),))), (last, (0, ((0, "b"),))))
        self.check(machine, _="", a="z", b="z", ab="az", abba="abbz", bbab="bbaz")
        machine = simple(FIRST, ((0, ((0, "e"),)), (0, ((0, "aa"),)), (0, ((0, "ab"),))),
                         ((0, ((0, "f"),)), (0, ((0, "ba"),)), (0, ((0, "bb"),))))
        self.check(machine, a="e", b="f", ab="abf", aab="aaabf", bba="bbbae", abab="abbaabf")

    def test_the_class_is_that_of_the_whole_rest(self):
        # The class tells whether the number of the letters a in the rest is even.
        odd = ((1, 0), (0, 1))
        machine = simple(odd, ((0, ((0, "e"),)), (0, ((0, "o"),))), ((0, ((0, "f"),)), (0, ((0, "p"),))))
        self.check(machine, a="e", b="f", aa="oe", ba="pe", aba="ope", abaa="efoe", aab="oef", abab="opef")

    def test_boxes_change_places(self):
        machine = simple(((0, 0),), ((0, ((1,), (0, "a"))),), ((0, ((1,), (0, "b"))),), end=(0, "c", 1), many=2)
        self.check(machine, _="c", a="ca", b="cb", ab="acb", aba="bcaa", abab="aacbb", abbbab="abacbbb")

    def test_boxes_are_put_together(self):
        machine = simple(((0, 0),), ((0, ((0, "a"), ("x", 1))),), ((0, ((1, "b", 0), ())),), end=(0, 1), many=2)
        self.check(machine, a="ax", aa="aaxx", ab="xba", aab="xxbaa", aaba="xxbaaax", abb="bxba", abab="xbxbaa")

    def test_boxes_are_left_out(self):
        machine = simple(((0, 0),), ((0, ((0, "a"),)),), ((0, (("b",),)),))
        self.check(machine, _="", a="a", b="b", aab="b", aba="ba", abaabaa="baa")
        machine = simple(((0, 0),), ((0, ((0, "a"), (1, "x"))),), ((0, ((0,), ("yy",))),), end=(1,), many=2)
        self.check(machine, _="", a="x", aa="xx", b="yy", aab="yy", ba="yyx")
        self.check(simple(((0, 0),), ((0, ((0, "a"),)),), ((0, ((0,),)),), end=()), _="", a="", ab="", bbb="")

    def test_all_rows_are_computed_from_the_old_contents(self):
        machine = simple(((0, 0),), ((0, (("a",), (0,), (1,))),), ((0, (("b",), (0,), (1,))),), end=(2, 1, 0), many=3)
        self.check(machine, _="", a="a", ab="ab", abb="abb", abba="bba", abbaab="aab")

    def test_none_in_the_middle(self):
        machine = simple(MORE, ((0, ((0, "a"),)), (0, ((0, "a"),))), ((0, ((0, "b"),)), None))
        self.check(machine, _="", b="b", ab="ab", ba=None, bb=None, aab="aab", aaba=None, abaaa=None, bab=None)

    def test_none_at_the_end(self):
        step = ((1, ()),), ((1, ()),)
        back = ((0, ()),), ((0, ()),)
        machine = ("boxes", "ab", ((0, 0),), 0, (step, back), (None, ("odd",)))
        self.check(machine, _=None, a="odd", ab=None, bab="odd", baba=None)

    def test_an_entry_behind_none(self):
        machine = ("boxes", "ab", ((0, 0),), 0, ((((0, ()),), (None,)),), (("w",),))
        self.check(machine, _="w", a="w", aa="w", b=None, ba=None, ab=None, aba=None)

    def test_states(self):
        rows = ((((1, ("x",)),), ((0, ("y",)),)), (((0, ("z",)),), ((1, ("w",)),)))
        rows = tuple(tuple(tuple((state, ((0,) + row,)) for state, row in entries) for entries in by) for by in rows)
        self.check(("boxes", "ab", ((0, 0),), 1, rows, ((0, "e"), (0, "f"))), _="e", a="xf", ab="xwf", aba="xwze",
                   babb="yxwwf")

    def test_the_empty_text(self):
        self.check(simple(((0, 0),), (None,), (None,), end=("w", 0)), _="w", a=None)
        self.check(simple(((0, 0),), (None,), (None,), end=None), _=None)
        self.check(simple(((0, 0),), (None,), (None,), end=()), _="")

    def test_long_texts(self):
        for many in (100, 1000, 3000):
            self.assertEqual(run_boxes(EXAMPLE, "ab" * many), "y" * many + "x" * many)
            self.assertEqual(run_boxes(EXAMPLE, "a" * many), "x" * many)
        machine = simple(MORE, ((0, ((0, "z"),)), (0, ((0, "a"),))), ((0, (("z", 0),)), (0, (("b", 0),))))
        self.assertEqual(run_boxes(machine, "a" * 100 + "b" * 101), "z" + "b" * 100 + "a" * 100)

    def test_many_boxes(self):
        many = 100
        news = tuple([(many - 1, "x")] + [(box,) for box in range(many - 1)])
        machine = ("boxes", "a", ((0,),), many, ((((0, news),),),), (tuple(range(many)),))
        self.assertEqual(run_boxes(machine, "a" * 250), "x" * 250)
        machine = machine[:5] + (((3,),),)
        self.assertEqual([run_boxes(machine, "a" * k) for k in (3, 4, 50, 104, 204)], ["", "x", "x", "xx", "xxx"])

    def test_machines_at_random(self):
        chance = random.Random(22)
        for _ in range(250):
            machine = some_boxes(chance)
            for text in texts(machine[1], 4):
                self.assertEqual(run_boxes(machine, text), run(machine, text), (machine, text))
            text = "".join(chance.choice(machine[1]) for _ in range(120))
            self.assertEqual(run_boxes(machine, text), run(machine, text), (machine, text))


class Domains(unittest.TestCase):
    def check(self, machine, longest):
        domain = domain_of(machine)
        self.assertTrue(is_set(domain))
        self.assertEqual(domain[1], machine[1])
        self.assertTrue(is_least(domain), domain)
        for text in texts(machine[1], longest):
            self.assertIs(read(domain, text), run(machine, text) is not None, (machine, text))
        return domain

    def is_set_text(self, machine, text):
        self.assertEqual(self.check(machine, 6), set_of(parse_set(text), machine[1]))

    def test_a_value_everywhere(self):
        self.assertEqual(self.check(EXAMPLE, 5), all_texts("ab"))
        for letters in ("a", "abc"):
            machine = any_boxes(random.Random(23), letters, 4, 3, 2, 0, 0)
            self.assertEqual(self.check(machine, 4), all_texts(letters))

    def test_a_value_nowhere(self):
        for letters in ("a", "abc"):
            machine = any_boxes(random.Random(24), letters, 4, 3, 2, 0, 1)
            self.assertEqual(self.check(machine, 4), no_texts(letters))
        # The only end is behind an entry that no text leads to.
        machine = ("boxes", "a", ((0,),), 0, (((None,),), ((None,),)), (None, ()))
        self.assertEqual(self.check(machine, 4), no_texts("a"))

    def test_states_alone_decide(self):
        rows = ((((0, ()),), ((1, ()),)), ((None,), (None,)))
        self.is_set_text(("boxes", "ab", ((0, 0),), 0, rows, (None, ())), "a*b")
        rows = ((((1, ()),), ((1, ()),)), (((0, ()),), ((0, ()),)))
        self.is_set_text(("boxes", "ab", ((0, 0),), 0, rows, ((), None)), "(..)*")

    def test_a_class_of_the_rest_decides(self):
        go = (0, ())
        self.is_set_text(simple(MORE, (go, go), (None, go), end=(), many=0), "()|.*a")
        self.is_set_text(simple(MORE, (go, go), (go, None), end=(), many=0), "a*b?")
        # b only where the number of the letters a in the rest is even.
        odd = ((1, 0), (0, 1))
        self.is_set_text(simple(odd, (go, go), (go, None), end=(), many=0), "a*(b(b|aa)*)?a?" if False else
                         "(a|())((aa)*b)*(aa)*|(a|())(aa)*" if False else "!(.*b(b*ab*ab*)*b*ab*)")
        # The class of the rest behind the first letter decides by itself.
        machine = ("boxes", "ab", FIRST, 0, (((None, (1, ()), None), (None, None, (1, ()))),
                                             (((1, ()),) * 3, ((1, ()),) * 3)), (None, ()))
        self.is_set_text(machine, "(aa|bb).*")

    def test_machines_at_random(self):
        chance = random.Random(25)
        for _ in range(250):
            self.check(some_boxes(chance), 5)

    def test_from_either_side(self):
        chance = random.Random(27)
        for _ in range(250):
            machine = some_boxes(chance)
            left, right = read_from_left(machine, None), read_from_right(machine, None)
            for text in texts(machine[1], 4):
                expected = run(machine, text) is not None
                self.assertIs(read(left, text), expected, (machine, text))
                self.assertIs(read(right, text[::-1]), expected, (machine, text))
            # None if there are too many.
            for found, again in ((left, read_from_left), (right, read_from_right)):
                many = len(found[2])
                self.assertEqual(again(machine, many), found)
                self.assertIsNone(again(machine, many - 1))

    def test_far_more_to_tell_apart_from_one_side(self):
        # The k-th letter is an a: from the right this takes a state for each set of places.
        many = 14
        go = tuple(((state + 1, ()),) for state in range(many))
        rows = tuple((go[state], go[state] if state != many - 1 else (None,)) for state in range(many))
        rows += ((((many, ()),), ((many, ()),)),)
        machine = ("boxes", "ab", ((0, 0),), 0, rows, (None,) * many + ((),))
        self.assertEqual(domain_of(machine), set_of(parse_set("." * (many - 1) + "a.*"), "ab"))
        # The state tells whether there is an a with a rest as long as a multiple of many: from the left, for each
        # class that the rest may have, this takes a state for each set of places, although no text is without a value.
        ahead = tuple((number + 1, number + 1) for number in range(many - 1)) + ((0, 0),)
        rows = (((0, ()),) * many, ((1, ()),) + ((0, ()),) * (many - 1)), (((1, ()),) * many,) * 2
        machine = ("boxes", "ab", ahead, 0, rows, ((), ("a",)))
        self.assertEqual(domain_of(machine), all_texts("ab"))

    def test_what_is_given_stays(self):
        machine = some_boxes(random.Random(26))
        before = repr(machine)
        run_boxes(machine, machine[1])
        domain_of(machine)
        is_boxes(machine)
        self.assertEqual(repr(machine), before)
