import random
import unittest

from plainboxes import some_boxes
from threescribes.boxes import is_boxes

EXAMPLE = ("boxes", "ab", ((0, 0),), 1, ((((0, ((0, "x"),)),), ((0, (("y", 0),)),)),), ((0,),))
AHEAD = ((0, 1), (1, 0))


def two_boxes(news, end=(0, 1), ahead=((0,),), many=2):
    """A machine over "a" with one state, and the same news for each class."""
    return ("boxes", "a", ahead, many, ((((0, news),) * len(ahead),),), (end,))


class RightMachines(unittest.TestCase):
    def check(self, *machines):
        for machine in machines:
            with self.subTest(machine=machine):
                self.assertIs(is_boxes(machine), True)

    def test_the_example(self):
        self.check(EXAMPLE)

    def test_no_boxes(self):
        self.check(("boxes", "a", ((0,),), 0, (((None,),),), (None,)), ("boxes", "a", ((0,),), 0, (((None,),),), ((),)),
                   ("boxes", "a", ((0,),), 0, ((((0, ()),),),), (("word",),)))

    def test_any_right_letters(self):
        for letters in ("a", "z", "az", "bxy", "abcdef", "uvwxyz"):
            self.check(("boxes", letters, ((0,) * len(letters),), 0, (((None,),) * len(letters),), (None,)))

    def test_news_and_ends(self):
        self.check(two_boxes(((0,), (1,))), two_boxes(((1,), (0,))), two_boxes(((0, 1), ())), two_boxes(((), ())),
                   two_boxes(((), (1, "x", 0, "yz"))), two_boxes((("a",), ("a",))), two_boxes((("a", 0), ("a", 1, "a"))),
                   two_boxes(((0,), (1,)), end=()), two_boxes(((0,), (1,)), end=(1,)),
                   two_boxes(((0,), (1,)), end=("x", 1, 0, "x")), two_boxes(((0,), (1,)), end=None))

    def test_the_same_box_in_different_news(self):
        self.check(two_boxes(((0,), (1,)), ahead=((1,), (0,))))
        self.check(("boxes", "ab", ((0, 0),), 1, ((((0, ((0,),)),), ((0, ((0,),)),)),), ((0,),)))

    def test_states_and_classes_that_are_not_reachable_and_boxes_that_do_not_matter(self):
        self.check(("boxes", "a", ((0,), (1,)), 3, (((None, None),), ((None, (1, ((), (), ("b",)))),)), (None, (2,))))

    def test_very_many_boxes(self):
        self.check(("boxes", "a", ((0,),), 10 ** 30, (((None,),),), ((5, 10 ** 30 - 1),)))

    def test_machines_at_random(self):
        chance = random.Random(20)
        for _ in range(300):
            self.check(some_boxes(chance))


class OtherThings(unittest.TestCase):
    def check(self, *things):
        for thing in things:
            with self.subTest(thing=thing):
                self.assertIs(is_boxes(thing), False)

    def part(self, number, *wrong):
        for part in wrong:
            self.check(EXAMPLE[:number] + (part,) + EXAMPLE[number + 1:])

    def test_no_tuples_of_six(self):
        self.check(None, True, False, 0, 6, -1, "", "boxes", "boxesa", (), ("boxes",), EXAMPLE[:5], EXAMPLE[1:])
        self.check(EXAMPLE + (None,), EXAMPLE + (EXAMPLE[5],), (EXAMPLE,), EXAMPLE[::-1])

    def test_the_word(self):
        self.part(0, "Boxes", "box", "set", "head", "", None, True, 0, ("boxes",))

    def test_letters(self):
        for letters in ("ba", "aa", "aB", "AB", "a1", "a ", "a{", "`a", "\u00e4\u00f6", "a\n"):
            self.part(1, letters)
        self.part(1, "a", "abc", "", None, True, 2, ("a", "b"), ("ab",))
        self.check(("boxes", "", ((),), 0, ((),), ((),)))
        self.check(("boxes", "abcdefg", ((0,) * 7,), 0, (((None,),) * 7,), (None,)))

    def test_classes(self):
        self.part(2, (), ((),), ((0,),), ((0, 0, 0),), ((0, 1),), ((0, -1),), ((True, 0),), ((0, False),), ((0, None),))
        self.part(2, None, True, 0, 1, "ab", ("ab",), (0, 0), ((0, "0"),), ((0, (0,)),), (None,), ((0, 0), (0, 0)))
        self.check(("boxes", "ab", (), 0, (((), ()),), (None,)))

    def test_classes_beside_others(self):
        rows = (((None, None), (None, None)),)
        self.assertIs(is_boxes(("boxes", "ab", AHEAD, 0, rows, (None,))), True)
        for ahead in (((0, 2), (1, 0)), ((0, 1), (1,)), ((0, 1), (1, 0, 0)), ((0, 1), (1, True)), ((0, 1), None)):
            self.check(("boxes", "ab", ahead, 0, rows, (None,)))

    def test_number_of_boxes(self):
        self.part(3, True, False, None, "", "1", (), (1,), -1, 0, 2)
        empty = ("boxes", "a", ((0,),), 0, (((None,),),), (None,))
        for wrong in (True, False, None, -1, -5, "0", ()):
            self.check(empty[:3] + (wrong,) + empty[4:])

    def test_states(self):
        row = EXAMPLE[4][0]
        self.part(4, (), (row, row), row, None, 0, True, "a", "ab", (None,), ("ab",))
        self.part(5, (), ((0,), (0,)), (0,), None, 1, True, "a", (0, 0))
        self.check(("boxes", "a", ((0,),), 0, (), ()))

    def test_entries_for_letters(self):
        one, other = EXAMPLE[4][0]
        self.part(4, ((one,),), ((one, other, other),), ((),), (one + other,), ((one, None),), ((one, 0),), ((one, "a"),))

    def test_entries_for_classes(self):
        one, other = EXAMPLE[4][0]
        self.part(4, ((one, ()),), ((one, other * 2),), ((one * 2, other * 2),), (((), ()),), ((one[0], other[0]),))

    def test_entries(self):
        one = EXAMPLE[4][0][0]
        for wrong in (0, True, False, "", "a", (), (0,), (0, ((0,),), 0), ((0,), 0), ("0", ((0,),)), (None, ((0,),)),
                      (0, None), (0, 0), (0, True), (0, "a"), ((), ())):
            self.part(4, ((one, (wrong,)),))

    def test_next_states(self):
        one = EXAMPLE[4][0][0]
        for wrong in (1, 2, -1, True, False, None, "0", (0,)):
            self.part(4, ((one, ((wrong, ((0,),)),)),))

    def test_number_of_rows(self):
        self.check(two_boxes(()), two_boxes(((0,),)), two_boxes(((0,), (1,), ())), two_boxes((0, 1)))
        self.check(two_boxes(((0,), None)), two_boxes(((0,), 1)), two_boxes(((0,), "a")), two_boxes(((0,), True)))

    def test_boxes_out_of_range(self):
        for wrong in (2, -1, -2, True, False, None, (), (0,)):
            self.check(two_boxes(((0,), (wrong,))), two_boxes((("x", wrong), (0,))), two_boxes(((0,), (1,)), end=(wrong,)))
        self.check(two_boxes(((), ()), end=(0, 1, 2)), two_boxes(((True,), ())), two_boxes(((False,), ())))

    def test_boxes_twice(self):
        self.check(two_boxes(((0, 0), ())), two_boxes(((0,), (0,))), two_boxes(((0, "x", 0), (1,))),
                   two_boxes(((0, 1), (1,))), two_boxes(((1,), (0, 1))), two_boxes(((0,), (1,)), end=(0, 0)),
                   two_boxes(((0,), (1,)), end=(1, "x", 0, "x", 1)))

    def test_strings(self):
        for wrong in ("", "A", "a ", "1", "aB", "\u00e4", "a\n", "{", "`", "-"):
            self.check(two_boxes(((wrong,), (1,))), two_boxes(((0,), (1, wrong))), two_boxes(((0,), (1,)), end=(wrong,)))
            self.check(two_boxes(((0,), (1,)), end=(0, wrong, 1)))

    def test_strings_side_by_side(self):
        self.check(two_boxes((("a", "b"), (1,))), two_boxes(((0, "a", "b"), (1,))), two_boxes((("x", 0, "a", "b", 1), ())),
                   two_boxes(((0,), (1,)), end=("a", "b")), two_boxes(((0,), (1,)), end=(0, "a", "a", 1)))

    def test_ends(self):
        self.part(5, (0,), (True,), (False,), ("",), ("a",), (((),),), ((None,),), ((1,),), ((0, 0),), ((-1,),))

    def test_the_second_of_several(self):
        rows = ((((1, ()),),), (((0, ()),),))
        self.assertIs(is_boxes(("boxes", "a", ((0,),), 0, rows, ((), ()))), True)
        self.check(("boxes", "a", ((0,),), 0, rows, ((), 0)), ("boxes", "a", ((0,),), 0, rows, ((), ("A",))))
        self.check(("boxes", "a", ((0,),), 0, (rows[0], (((2, ()),),)), ((), ())))
        self.check(("boxes", "a", ((0,),), 0, (rows[0], (((0, ()), None),)), ((), ())))
        self.check(("boxes", "a", ((0,),), 0, (rows[0], ()), ((), ())), ("boxes", "a", ((0,),), 0, rows, ((),)))

    def test_random_machines_with_one_thing_wrong(self):
        chance = random.Random(21)
        for _ in range(300):
            machine = some_boxes(chance)
            for wrong in (True, None, -1, "A", ("", "")):
                self.check(changed(chance, machine, wrong))


def changed(chance, machine, wrong):
    """The machine with something wrong in the place of its word, its letters, its number of boxes or a class."""
    number = chance.choice((0, 1, 2, 3))
    part = machine[number]
    if isinstance(part, tuple):
        steps = list(part[0])
        steps[chance.randrange(len(steps))] = wrong
        part = (tuple(steps),) + part[1:]
    else:
        part = wrong
    return machine[:number] + (part,) + machine[number + 1:]


