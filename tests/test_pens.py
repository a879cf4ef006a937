import random
import unittest

from plainboxes import run
from plainly import texts
from plainpens import any_pen, is_fork
from threescribes.alike import alike
from threescribes.boxes import is_boxes, run_boxes
from threescribes.pens import forks, is_pen, is_plain_pen, without_look

# Class 1 is that of the rests whose last letter is a, 2 of those whose last letter is b.
BY_LAST = ((1, 2), (1, 1), (2, 2))
# The last letter first, and then the text. State 1 has written the first letter.
LAST_FIRST = ("boxes", "ab", BY_LAST, 1,
              tuple(tuple(tuple((1, ((0, (last if state == 0 else "") + sign),)) for last in (sign, "a", "b")) for sign in "ab") for state in (0, 1)),
              ((0,), (0,)))
# Class 1 is that of all rests that are not empty: c for each letter but the last one.
ALL_BUT_LAST = ("boxes", "ab", ((1, 1), (1, 1)), 1, ((((0, ((0,),)), (0, ((0, "c"),))), ((0, ((0,),)), (0, ((0, "c"),)))),), ((0,),))
COPY = ("boxes", "ab", ((0, 0),), 1, ((((0, ((0, "a"),)),), ((0, ((0, "b"),)),)),), ((0,),))
# Over "a": class 1 is that of the rests of odd length. It writes the text if its length is odd, otherwise nothing.
PARITY = ("boxes", "a", ((1,), (0,)), 1, ((((1, ((0, "a"),)), (2, ((0,),))),), (((1, ((0, "a"),)),) * 2,), (((2, ((0,),)),) * 2,)), ((0,),) * 3)


class IsPen(unittest.TestCase):
    def test_pens(self):
        for pen in (LAST_FIRST, ALL_BUT_LAST, PARITY):
            self.assertIs(is_pen(pen), True)
            self.assertIs(is_plain_pen(pen), False)
        for pen in (COPY, COPY[:5] + ((None,),), COPY[:5] + (((0, "abc"),),), ("boxes", "ab", ((0, 0),), 1, (((None,), (None,)),), (None,))):
            self.assertTrue(is_boxes(pen))
            self.assertIs(is_pen(pen), True)
            self.assertIs(is_plain_pen(pen), True)

    def test_other_machines(self):
        def with_row(row):
            return ("boxes", "ab", ((0, 0),), 1, ((((0, ((0, "a"),)),), ((0, (row,)),)),), ((0,),))

        def with_end(row):
            return COPY[:5] + ((row,),)

        two = ("boxes", "ab", ((0, 0),), 2, ((((0, ((0, "a"), (1, "a"))),), ((0, ((0, "b"), (1, "b"))),)),), ((0, 1),))
        none = ("boxes", "ab", ((0, 0),), 0, ((((0, ()),), ((0, ()),)),), ((),))
        lost = ("boxes", "ab", ((0, 0),), 0, (((None,), (None,)),), (None,))
        classes = ("boxes", "ab", ((0, 0), (0, 0)), 1, ((((0, ((0, "a"),)), (0, ((0,),))), ((0, ((0,),)), (0, (("x", 0),)))),), ((0,),))
        for machine in (with_row(("a", 0)), with_row(("a",)), with_row(()), with_row(("a", 0, "b")), with_end(("a", 0)), with_end(()), with_end(("w",)),
                        with_end(("w", 0, "w")), two, two[:5] + (((0,),),), none, lost, classes):
            self.assertTrue(is_boxes(machine))
            self.assertIs(is_pen(machine), False)
            self.assertIs(is_plain_pen(machine), False)
        self.assertIs(is_pen(with_row((0,))), True)
        self.assertIs(is_pen(with_end((0, "w"))), True)

    def test_several_states_and_classes(self):
        chance = random.Random(180)
        for _ in range(50):
            pen = any_pen(chance, "ab", chance.randrange(1, 4), chance.randrange(1, 4), ("", "a"), 0.2, 0.3)
            self.assertIs(is_pen(pen), True)
            self.assertIs(is_plain_pen(pen), len(pen[2]) == 1)


class Forks(unittest.TestCase):
    def check(self, pen, fork, due):
        self.assertIs(is_fork(pen, fork), due)
        self.assertIs(forks(pen, fork), due)

    def test_the_example(self):
        self.check(LAST_FIRST, ("a", "a", "a", "b"), True)
        self.check(LAST_FIRST, ("b", "a", "a", "b"), True)
        self.check(LAST_FIRST, ("a", "ab", "a", "b"), True)
        self.check(LAST_FIRST, ("abba", "b", "bba", "aab"), True)

    def test_the_classes_behind_v(self):
        # The empty rest has a class of its own, which no other rest has.
        self.check(LAST_FIRST, ("a", "a", "", "b"), False)
        self.check(LAST_FIRST, ("a", "a", "a", ""), False)
        self.check(PARITY, ("a", "a", "", "a"), False)
        self.check(PARITY, ("a", "aaa", "aa", "a"), False)
        self.check(PARITY, ("a", "aa", "", "a"), True)
        self.check(PARITY, ("aa", "aaaa", "aaa", "aa"), True)

    def test_the_states_behind_v(self):
        # From state 0 the pen does not come back to it.
        self.check(LAST_FIRST, ("", "a", "a", "b"), False)
        self.check(PARITY, ("", "aa", "", "a"), False)

    def test_where_it_stops(self):
        # At a b there is no entry ahead of a rest whose last letter is b.
        rows = tuple(((by_letter[0]), (by_letter[1][0], by_letter[1][1], None)) for by_letter in LAST_FIRST[4])
        stops = LAST_FIRST[:4] + (rows, LAST_FIRST[5])
        self.check(stops, ("a", "a", "a", "b"), True)
        self.check(stops, ("a", "b", "a", "b"), False)
        self.check(stops, ("a", "b", "b", "a"), False)
        self.check(stops, ("b", "a", "a", "b"), False)
        self.check(stops, ("b", "a", "b", "a"), False)

    def test_where_there_is_no_value(self):
        # Three states: behind a b there is no end.
        rows = tuple((tuple((1, entry[1]) for entry in by_letter[0]), tuple((2, entry[1]) for entry in by_letter[1])) for by_letter in LAST_FIRST[4])
        lost = LAST_FIRST[:4] + (rows + (rows[1],), ((0,), (0,), None))
        self.check(lost, ("a", "a", "a", "b"), False)
        self.check(lost, ("a", "a", "b", "a"), False)
        self.check(lost, ("a", "a", "ba", "ab"), False)
        self.check(lost[:5] + (((0,), (0,), (0,)),), ("a", "a", "a", "b"), True)

    def test_what_is_written(self):
        # The same class twice; a v that is empty; lengths that are unlike with one of them 0; equal endless strings.
        self.check(LAST_FIRST, ("a", "a", "a", "ba"), False)
        self.check(LAST_FIRST, ("a", "", "a", "b"), False)
        self.check(LAST_FIRST, ("", "", "", ""), False)
        for pair, words, due in ((("ab", "ba"), ("a", ""), True), (("ab", "ab"), ("", ""), False), (("ab", "ba"), ("", "a"), False),
                                 (("ab", "ba"), ("ab", "aba"), False), (("ab", "ba"), ("a", "aba"), True), (("ab", "ba"), ("aba", "a"), True), (("a", "aa"), ("", ""), True),
                                 (("", ""), ("a", "b"), False), (("aa", "aa"), ("", "aaa"), False), (("aa", "aa"), ("b", "aaa"), True), (("a", "b"), ("", ""), True)):
            # Ahead of a last letter a it writes the first of the strings, ahead of a last letter b the second one.
            first = tuple((1, ((0,) + ((word,) if word else ()),)) for word in ("",) + words)
            later = tuple((1, ((0,) + ((word,) if word else ()),)) for word in ("",) + pair)
            pen = ("boxes", "ab", BY_LAST, 1, ((first, first), (later, later)), ((0,), (0,)))
            self.check(pen, ("a", "b", "a", "b"), due)
            self.check(pen, ("a", "ab", "aa", "b"), due)
            found = without_look(pen)
            self.assertEqual(found[0] == "fork", due, (pair, words, found))

    def test_any_strings(self):
        chance = random.Random(181)
        found = 0
        for _ in range(1500):
            letters = chance.choice(("a", "ab"))
            pen = any_pen(chance, letters, chance.randrange(1, 4), chance.randrange(1, 4), ("", "a", "aa", "b"), 0.1, 0.2)
            for _ in range(12):
                fork = tuple("".join(chance.choice(letters) for _ in range(chance.randrange(4))) for _ in range(4))
                due = is_fork(pen, fork)
                found += due
                self.assertIs(forks(pen, fork), due)
        self.assertGreater(found, 60)


class WithoutLook(unittest.TestCase):
    def check(self, pen, longest=None, long=(12, 30, 70)):
        found = without_look(pen)
        self.assertEqual((type(found), len(found)), (tuple, 2))
        if found[0] == "fork":
            self.assertEqual([type(part) for part in found[1]], [str] * 4)
            self.assertTrue(forks(pen, found[1]))
            self.assertTrue(is_fork(pen, found[1]))
            return found
        self.assertEqual(found[0], "pen")
        plain = found[1]
        self.assertTrue(is_boxes(plain))
        self.assertTrue(is_plain_pen(plain))
        self.assertEqual(plain[1], pen[1])
        chance = random.Random(182)
        words = texts(pen[1], longest or {1: 10, 2: 6, 3: 4}[len(pen[1])])
        words += ["".join(chance.choice(pen[1]) for _ in range(many)) for many in long]
        for text in words:
            self.assertEqual(run_boxes(plain, text), run(pen, text), (pen, text))
        self.assertEqual(alike(plain, pen)[0], "alike")
        return found

    def test_the_examples(self):
        self.assertEqual(self.check(LAST_FIRST)[0], "fork")
        self.assertEqual(self.check(ALL_BUT_LAST)[0], "pen")
        self.assertEqual(self.check(PARITY)[0], "fork")
        self.assertEqual(self.check(COPY)[0], "pen")

    def test_no_value(self):
        chance = random.Random(183)
        for classes in (1, 2, 3):
            pen = any_pen(chance, "ab", 3, classes, ("", "a"), 0.1, 1)
            self.assertEqual(self.check(pen)[0], "pen")
            self.assertEqual(self.check(pen[:4] + ((((None,) * classes,) * 2,), (None,)))[0], "pen")
            self.assertEqual(self.check(pen[:4] + ((((None,) * classes,) * 2,), ((0, "w"),)))[0], "pen")

    def test_a_fork_in_classes_that_no_rest_has(self):
        # LAST_FIRST, but no rest has the classes 1 and 2 there.
        pen = LAST_FIRST[:2] + (((0, 0), (1, 1), (2, 2)),) + LAST_FIRST[3:]
        self.assertEqual(self.check(pen)[0], "pen")

    def test_a_fork_where_there_is_no_value(self):
        # A last letter b is found nowhere with a value: the classes part, but only one of them matters.
        rows = tuple((by_letter[0], (None,) + by_letter[1][1:]) for by_letter in LAST_FIRST[4])
        self.assertEqual(self.check(LAST_FIRST[:4] + (rows, LAST_FIRST[5]))[0], "pen")

    def test_what_is_still_to_be_written(self):
        # Two letters later the pen knows whether x or y was to be written for the first one: for the last but one letter.
        ahead = ((1, 1), (2, 3), (2, 3), (2, 3))
        rows = tuple(tuple(tuple((0, ((0, "xx" if number < 2 else "y"),)) for number in range(4)) for _ in "ab") for _ in "s")
        self.assertEqual(self.check(("boxes", "ab", ahead, 1, rows, ((0, "z"),)))[0], "pen")
        # What is written tells the next letter.
        nexts = ((1, 2), (1, 2), (1, 2))
        rows = (tuple(tuple((0, ((0, "n" + word),)) for word in ("", "aaa", "bb")) for _ in "ab"),)
        self.assertEqual(self.check(("boxes", "ab", nexts, 1, rows, ((0,),)))[0], "pen")

    def test_pens_at_random(self):
        chance = random.Random(184)
        kinds = {"pen": 0, "fork": 0}
        for _ in range(500):
            pen = any_pen(chance, chance.choice(("a", "ab", "abc")), chance.randrange(1, 5), chance.randrange(1, 4),
                          chance.choice((("", "a"), ("a", "aa"), ("", "", "b", "ab"), ("", "a", "aa", "aaa"))), chance.choice((0, 0.2, 0.4)), chance.choice((0, 0.3, 0.6)))
            found = self.check(pen, 4, (20,))
            kinds[found[0]] += len(pen[2]) > 1
        self.assertGreater(kinds["pen"], 100)
        self.assertGreater(kinds["fork"], 40)

    def test_plain_pens_stay_plain(self):
        chance = random.Random(185)
        for _ in range(60):
            self.assertEqual(self.check(any_pen(chance, "ab", 3, 1, ("", "a", "bb"), 0.2, 0.2), 4)[0], "pen")

    def test_plain_pens_with_a_look_ahead_that_is_of_no_use(self):
        # What the classes change is taken back later, so there is a plain pen.
        chance = random.Random(186)
        for _ in range(60):
            plain = any_pen(chance, "ab", 3, 1, ("", "a", "bb", "aba"), 0.1, 0.2)
            self.assertEqual(self.check(delayed(plain), 4)[0], "pen")

    def test_what_is_given_stays(self):
        before = repr((LAST_FIRST, ALL_BUT_LAST))
        without_look(LAST_FIRST)
        without_look(ALL_BUT_LAST)
        forks(LAST_FIRST, ("a", "a", "a", "b"))
        self.assertEqual(repr((LAST_FIRST, ALL_BUT_LAST)), before)


def delayed(pen):
    """The pen with what it writes at a letter written at the letter before already, which needs the next letter to be known.

    A state has the pen's state; class 0 is that of the empty rest, class k + 1 that of rests that begin with letter k.
    """
    _, letters, _, _, rows, ends = pen

    def tail(row):
        return "".join(row[1:])

    def entry(state, k, number):
        found = rows[state][k][0]
        if found is None:
            return None
        goal = found[0]
        if number == 0:
            later = None if ends[goal] is None else ""
        else:
            behind = rows[goal][number - 1][0]
            later = None if behind is None else tail(behind[1][0])
        return None if later is None else (goal, later)

    # State 0 begins: it also writes what is written at its own letter.
    full = []
    for state in [None] + list(range(len(rows))):
        by_letter = []
        for k in range(len(letters)):
            entries = []
            for number in range(len(letters) + 1):
                found = entry(0 if state is None else state, k, number)
                own = tail(rows[0][k][0][1][0]) if state is None and found is not None else ""
                entries.append(None if found is None else (found[0] + 1, ((0, own + found[1]) if own + found[1] else (0,),)))
            by_letter.append(tuple(entries))
        full.append(tuple(by_letter))
    nexts = (tuple(range(1, len(letters) + 1)),) * (len(letters) + 1)
    return ("boxes", letters, nexts, 1, tuple(full), (ends[0],) + ends)
