import random
import unittest

from plainboxes import any_boxes, run, some_boxes, walk
from plainly import texts
from plainterms import any_term
from plainvalues import SETS
from threescribes.build import boxes_of
from threescribes.heads import is_head, run_head
from threescribes.walks import head_of

EXAMPLE = ("boxes", "ab", ((0, 0),), 1, ((((0, ((0, "x"),)),), ((0, (("y", 0),)),)),), ((0,),))
FIRST = ((1, 2), (1, 2), (1, 2))


class Heads(unittest.TestCase):
    def check(self, machine, longest=5, long=(20, 60)):
        head = head_of(machine)
        self.assertTrue(is_head(head))
        self.assertEqual(head[1], machine[1])
        self.assertLessEqual(len(head[4]), 2 * machine[3] + 1)
        chance = random.Random(80)
        words = texts(machine[1], longest) + ["".join(chance.choice(machine[1]) for _ in range(many)) for many in long]
        found = 0
        for text in words:
            value = run(machine, text)
            found += value is not None
            self.assertEqual(run_head(head, text), value, (machine, text))
        return head, found

    def test_the_example(self):
        head, _ = self.check(EXAMPLE)
        self.assertEqual(walk(head, "aabba"), "yyxxx")
        self.assertEqual(run_head(head, ""), "")

    def test_no_box(self):
        for end in ((), ("w",), None):
            self.check(("boxes", "ab", ((0, 0),), 0, ((((0, ()),), (None,)),), (end,)))
        rows = ((((1, ()),), ((0, ()),)), (((0, ()),), ((1, ()),)))
        head, _ = self.check(("boxes", "ab", ((0, 0),), 0, rows, (("even",), None)))
        self.assertEqual(len(head[4]), 1)

    def test_entries_that_depend_on_the_class_of_the_rest(self):
        told = (0, ((0, "e"),)), (0, ((0, "aa"),)), (0, (("ab", 0),))
        other = (0, (("f", 0),)), None, (0, ((0, "bb"),))
        self.check(("boxes", "ab", FIRST, 1, ((told, other),), (("s", 0, "t"),)))
        self.check(("boxes", "ab", ((1, 0), (0, 1)), 1, ((((0, ((0, "x"),)), (0, ((0,),))), ((0, (("y",),)), (0, (("z", 0),)))),), ((0,),)))

    def test_boxes_that_change_places(self):
        self.check(("boxes", "ab", ((0, 0),), 2, ((((0, ((1,), (0, "a"))),), ((0, (("b", 1), (0,))),)),), ((0, "c", 1),)))
        self.check(("boxes", "abc", ((0, 0, 0),), 3, ((((0, ((1,), (2,), ("a", 0))),), ((0, ((2, "b"), (1,), (0,))),),
                                                      ((0, ((1, "c"), (0,), (2,))),)),), ((2, 0, 1),)))

    def test_boxes_that_are_put_together(self):
        self.check(("boxes", "ab", ((0, 0),), 2, ((((0, ((0, "a"), ("x", 1))),), ((0, ((1, "b", 0), ())),)),), ((0, 1),)))
        self.check(("boxes", "ab", ((0, 0),), 3, ((((0, ((0, 1), (2,), ("a",))),), ((0, ((2, "b", 1, "c", 0), ("d",), ("e",))),)),), ((1, 2, 0),)))

    def test_boxes_that_are_left_out(self):
        self.check(("boxes", "ab", ((0, 0),), 1, ((((0, ((0, "a"),)),), ((0, (("b",),)),)),), ((0,),)))
        self.check(("boxes", "ab", ((0, 0),), 2, ((((0, ((0, "a"), (1, "x"))),), ((0, ((0,), ("yy",))),)),), ((1,),)))
        self.check(("boxes", "ab", ((0, 0),), 2, ((((1, ((0, "a"), (1, "x"))),), ((0, ((1,), ())),)),
                                                  (((0, ((1,), (0,))),), ((1, (("z", 0), (1,))),))), ((1,), (0, "e"))))

    def test_what_stands_in_ends(self):
        news = ((0, "x"), ("y", 1))
        for end in ((), ("w",), (0,), (1,), (0, 1), (1, 0), ("u", 0), (0, "u"), ("u", 1, "v", 0, "w"), (1, "v")):
            self.check(("boxes", "a", ((0,),), 2, ((((0, news),),),), (end,)))

    def test_no_value(self):
        self.check(("boxes", "ab", FIRST, 1, (((None, (0, ((0,),)), None), (None, (0, ((0, "x"),)), None)),), ((0,),)))
        self.check(("boxes", "a", ((0,),), 1, ((((1, ((0, "x"),)),),), (((0, ((0, "y"),)),),)), ((0,), None)))
        self.check(("boxes", "a", ((0,),), 1, ((((0, ((0, "x"),)),),),), (None,)))

    def test_the_empty_text(self):
        for end in ((0,), ("w", 0), (), None):
            head, _ = self.check(("boxes", "a", ((0,),), 1, ((((0, ((0, "x"),)),),),), (end,)), 2)
            self.assertEqual(run_head(head, ""), None if end is None else "".join(x for x in end if x != 0))

    def test_machines_at_random(self):
        chance = random.Random(81)
        found = sum(self.check(some_boxes(chance), 4, (12,))[1] for _ in range(250))
        self.assertGreater(found, 4000)

    def test_machines_with_more_boxes(self):
        chance = random.Random(82)
        for _ in range(30):
            self.check(any_boxes(chance, chance.choice(("a", "ab")), 3, 2, chance.randrange(4, 9), 0, 0.2), 5)

    def test_machines_of_terms(self):
        chance = random.Random(83)
        for _ in range(60):
            self.check(boxes_of(any_term(chance, 3, SETS), chance.choice(("a", "ab", "abc"))), 4, (25,))

    def test_what_is_given_stays(self):
        machine = some_boxes(random.Random(84))
        before = repr(machine)
        head_of(machine)
        self.assertEqual(repr(machine), before)
