import random
import unittest

from plainboxes import any_head, walk
from plainly import texts
from threescribes.heads import is_head, is_plain, run_head

ONE = ((0,),)


def plain(letters, *states):
    """A plain head, for each state one move for each letter, the left mark and the right mark."""
    ask = ((0,) * len(letters),)
    return ("head", letters, ask, ask, tuple(tuple(((move,),) for move in moves) for moves in states))


# It writes the text, goes home, and writes it again.
TWICE = plain("ab", ((0, 1, "a"), (0, 1, "b"), (0, 1, ""), (1, -1, "")),
              ((1, -1, ""), (1, -1, ""), (2, 1, "c"), None),
              ((2, 1, "a"), (2, 1, "b"), None, (2, 1, "")))

# It goes to the right mark and writes the text on its way back; then it goes to the right.
BACK = plain("ab", ((0, 1, ""), (0, 1, ""), (0, 1, ""), (1, -1, "")),
             ((1, -1, "a"), (1, -1, "b"), (2, 1, ""), None),
             ((2, 1, ""), (2, 1, ""), None, (2, 1, "")))

# What has been met to the left, or stands to the right: 0 nothing, 1 an a first, 2 a b first.
SEEN = ((1, 2), (1, 2), (1, 2))
LETTERS = {0: "", 1: "a", 2: "b"}


def asking(write, step=1):
    """A head over "ab" that goes to the right and writes what write tells of number, left and right class."""
    numbers = [[[(0, step if number < 2 else 1, write(number, left, right)) for right in range(3)]
                for left in range(3)] for number in range(4)]
    return ("head", "ab", SEEN, SEEN, (tuple(tuple(tuple(entries) for entries in by) for by in numbers),))


class RightHeads(unittest.TestCase):
    def test_right_heads(self):
        for head in (TWICE, BACK, asking(lambda number, left, right: ""), plain("a", (None, None, None)),
                     plain("a", ((0, 1, "xyz"), (0, 1, ""), (0, -1, "z"))), plain("z", ((0, -1, ""),) + (None,) * 2),
                     ("head", "a", ((1,), (0,)), ONE, ((((None,),) * 2,) * 3,)),
                     ("head", "a", ONE, ((1,), (0,)), ((((None,) * 2,),) * 3,))):
            self.assertIs(is_head(head), True, head)

    def test_any_right_letters(self):
        for letters in ("a", "z", "az", "bxy", "abcdef", "uvwxyz"):
            self.assertIs(is_head(plain(letters, (None,) * (len(letters) + 2))), True)

    def test_heads_at_random(self):
        chance = random.Random(40)
        for _ in range(200):
            head = any_head(chance, chance.choice(("a", "ab", "bcd")), *[chance.randrange(1, 4) for _ in range(3)])
            self.assertIs(is_head(head), True, head)

    def test_plain_heads(self):
        self.assertIs(is_plain(TWICE), True)
        self.assertIs(is_plain(plain("abcdef", (None,) * 8)), True)
        self.assertIs(is_plain(asking(lambda number, left, right: "")), False)
        self.assertIs(is_plain(("head", "a", ((1,), (0,)), ONE, ((((None,),) * 2,) * 3,))), False)
        self.assertIs(is_plain(("head", "a", ONE, ((1,), (0,)), ((((None,) * 2,),) * 3,))), False)
        # A class that no text has is a class.
        self.assertIs(is_plain(("head", "a", ((0,), (0,)), ONE, ((((None,),) * 2,) * 3,))), False)


class OtherThings(unittest.TestCase):
    def check(self, *things):
        for thing in things:
            with self.subTest(thing=thing):
                self.assertIs(is_head(thing), False)

    def part(self, number, *wrong):
        for part in wrong:
            self.check(TWICE[:number] + (part,) + TWICE[number + 1:])

    def move(self, *wrong, number=0):
        for move in wrong:
            moves = [None] * 4
            moves[number] = move
            self.check(plain("ab", moves, (None,) * 4))

    def test_no_tuples_of_five(self):
        self.check(None, True, False, 0, 5, -1, "", "head", "heads", (), ("head",), TWICE[:4], TWICE[1:])
        self.check(TWICE + (None,), (TWICE,), TWICE[::-1])

    def test_the_word(self):
        self.part(0, "Head", "heads", "boxes", "set", "", None, True, 0, ("head",))

    def test_letters(self):
        self.part(1, "ba", "aa", "aB", "a1", "a ", "a{", "`a", "\u00e4\u00f6", "a", "abc", "", None, True, 2, ("a", "b"))
        self.check(plain("abcdefg", (None,) * 9), ("head", "", ((),), ((),), ((((None,),),) * 2,)))

    def test_classes(self):
        for number in (2, 3):
            self.part(number, (), ((),), ((0,),), ((0, 0, 0),), ((0, 1),), ((-1, 0),), ((True, 0),), ((0, False),),
                      ((0, None),), None, True, 0, 1, "ab", ("ab",), (0, 0), ((0, "0"),), (None,), ((0, 0), (0, 0)))
        self.check(("head", "a", (), ONE, (((),) * 3,)), ("head", "a", ONE, (), ((((),),) * 3,)))

    def test_states(self):
        self.part(4, (), None, True, 0, "", "ab", (None,), ("ab",), (0,), TWICE[4][0], TWICE[4][:1], TWICE[4][:2])

    def test_numbers(self):
        moves = TWICE[4]
        self.part(4, moves[:2] + (moves[2][:3],), moves[:2] + (moves[2] + (((None,),),),), (moves[0], (), moves[2]))

    def test_entries_for_classes(self):
        for entries in ((), ((None,), (None,)), ((None, None),), ((),), (None,), None, 0, True, "a", ("a",)):
            self.part(4, ((entries,) + ((((None,),),) * 3),), ((((None,),),) * 3 + (entries,),))
        right = ("head", "a", ((1,), (0,)), ((1,), (1,), (2,)), ((((None,) * 3,) * 2,) * 3,))
        self.assertIs(is_head(right), True)
        for entries in (((None,) * 2,) * 3, ((None,) * 3,), ((None,) * 3,) * 3, ((None,) * 3, (None,) * 2),
                        ((None,) * 3, (None,) * 4)):
            self.check(right[:4] + ((entries, right[4][0][0], right[4][0][0]),))

    def test_moves(self):
        self.move(0, True, False, "", "a", (), (0,), (0, 1), (0, 1, "", ""), (0, 1, "", None), "abc", (0, "", 1))
        self.move((2, 1, ""), (-1, 1, ""), (True, 1, ""), (False, 1, ""), (None, 1, ""), ("0", 1, ""), ((0,), 1, ""))

    def test_steps(self):
        for number in range(4):
            self.move((0, 0, ""), (0, 2, ""), (0, -2, ""), (0, True, ""), (0, False, ""), (0, None, ""), (0, "1", ""),
                      (0, (1,), ""), (0, "", ""), number=number)
            self.assertIs(is_head(plain("ab", tuple((1, 1, "") if k == number else None for k in range(4)),
                                        (None,) * 4)), True)

    def test_the_step_at_the_left_mark(self):
        self.move((0, -1, ""), number=2)
        for number in (0, 1, 3):
            self.assertIs(is_head(plain("ab", tuple((0, -1, "") if k == number else None for k in range(4)))), True)
        # At the left mark for any classes.
        self.check(("head", "a", ((1,), (0,)), ONE, ((((None,),) * 2, ((None,), ((0, -1, ""),)), ((None,),) * 2),)))

    def test_what_is_written(self):
        for number in range(4):
            self.move(*[(0, 1, string) for string in ("A", "a ", " ", "1", "aB", "\u00e4", "a\n", "{", "`", "-", None,
                                                      True, 0, 1, (), ("a",))], number=number)


class Values(unittest.TestCase):
    def check(self, head, **pairs):
        self.assertTrue(is_head(head))
        for text, value in pairs.items():
            with self.subTest(text=text):
                self.assertEqual(run_head(head, text.strip("_")), value)

    def test_back_and_forth(self):
        self.check(TWICE, _="c", a="aca", b="bcb", abb="abbcabb")
        self.check(BACK, _="", a="a", ab="ba", aabab="babaa")
        self.assertEqual(run_head(BACK, "ab" * 500), "ba" * 500)

    def test_one_step_back_at_each_letter(self):
        # Each b is written again from the letter behind it.
        head = plain("ab", ((0, 1, "a"), (1, 1, "b"), (0, 1, ""), (0, 1, "")),
                     ((2, -1, ""), (2, -1, ""), None, (2, -1, "")),
                     (None, (3, 1, "c"), None, None),
                     ((0, 1, "a"), (1, 1, "b"), None, (0, 1, "")))
        self.check(head, _="", a="a", b="bc", ab="abc", ba="bca", abba="abcbca")

    def test_moves_that_depend_on_the_left_class(self):
        # The class is told by the last letter to the left.
        head = asking(lambda number, left, right: LETTERS[left] if number < 2 else "")
        self.check(head, _="", a="", b="", ab="a", ba="b", abba="abb", bbab="bba")

    def test_moves_that_depend_on_the_right_class(self):
        # The class is told by the next letter to the right.
        head = asking(lambda number, left, right: LETTERS[right] if number < 2 else "")
        self.check(head, _="", a="", b="", ab="b", ba="a", abba="bba", bbab="bab")

    def test_classes_at_the_left_mark(self):
        head = asking(lambda number, left, right: "l" + "xyz"[left] + LETTERS[right] if number == 2 else "")
        self.check(head, _="lx", a="lxa", b="lxb", ab="lxa", ba="lxb", abba="lxa", bbab="lxb")

    def test_classes_at_the_right_mark(self):
        head = asking(lambda number, left, right: LETTERS[left] + "r" + "xyz"[right] if number == 3 else "")
        self.check(head, _="rx", a="arx", b="brx", ab="brx", ba="arx", abba="arx", bbab="brx")

    def test_classes_of_all_that_stands_there(self):
        # Left: whether the number of letters is even; right: the same of the letters b.
        moves = tuple(tuple(tuple((0, 1, "" if number > 1 else "eo"[left] + "xy"[right]) for right in range(2))
                            for left in range(2)) for number in range(4))
        head = ("head", "ab", ((1, 1), (0, 0)), ((0, 1), (1, 0)), (moves,))
        self.check(head, _="", a="ex", ab="eyox", bba="eyoxex", babb="exoxeyox")

    def test_heads_that_never_end(self):
        self.check(plain("a", ((0, 1, "x"), (0, 1, ""), (0, -1, ""))), _=None, a=None, aa=None)
        self.check(plain("ab", ((0, 1, "x"), (0, -1, ""), (0, 1, ""), (0, 1, ""))), _="", a="x", aa="xx", b=None, ab=None)
        # Only the second time at the same place in the same state does it never end.
        self.check(plain("a", ((0, 1, ""), (0, 1, ""), (1, -1, "")), ((1, -1, "x"), (2, 1, ""), None),
                         ((2, 1, ""), None, (3, -1, "")), ((3, -1, "y"), (4, 1, ""), None),
                         ((4, 1, ""), None, (4, 1, "z"))), _="z", aaa="xxxyyyz")

    def test_a_move_that_is_none(self):
        self.check(plain("ab", ((0, 1, "x"), None, (0, 1, ""), (0, 1, ""))), _="", a="x", b=None, ab=None, ba=None)
        self.check(plain("a", ((0, 1, "x"), None, (0, 1, ""))), _=None, a=None)
        self.check(plain("a", ((0, 1, "x"), (0, 1, ""), None)), _=None, a=None)
        some = asking(lambda number, left, right: "x")
        moves = [[list(entries) for entries in by] for by in some[4][0]]
        moves[0][1][2] = None
        head = some[:4] + ((tuple(tuple(tuple(entries) for entries in by) for by in moves),),)
        self.check(head, _="xx", a="xxx", aab=None, aaa="xxxxx", baab=None, bab="xxxxx")

    def test_the_empty_text(self):
        self.check(plain("a", (None, (1, 1, "u"), None), (None, None, (0, 1, "v"))), _="uv", a=None)
        self.check(plain("a", (None, (1, 1, "u"), None), (None, None, (2, -1, "v")), (None, (3, 1, "w"), None),
                         (None, None, (3, 1, "x"))), _="uvwx", a=None)

    def test_heads_at_random(self):
        chance = random.Random(41)
        kinds = {True: 0, False: 0}
        for _ in range(400):
            head = any_head(chance, chance.choice(("a", "ab", "bcd")), *[chance.randrange(1, 4) for _ in range(3)],
                            stop=chance.choice((0, 0.1)))
            for text in texts(head[1], 4) + ["".join(chance.choice(head[1]) for _ in range(30))]:
                value = run_head(head, text)
                self.assertEqual(value, walk(head, text), (head, text))
                kinds[value is None] += 1
        self.assertGreater(min(kinds.values()), 1000, kinds)

    def test_what_is_given_stays(self):
        head = any_head(random.Random(42), "ab", 3, 3, 3)
        before = repr(head)
        run_head(head, "abba")
        is_head(head)
        is_plain(head)
        self.assertEqual(repr(head), before)
