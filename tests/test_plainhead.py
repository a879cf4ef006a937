import random
import unittest

from plainboxes import any_head, some_boxes, walk
from plainheads import BOTH_WAYS, COPY, COUNTS, NAMED, NEVER
from plainly import texts
from threescribes.heads import is_head, is_plain, run_head
from threescribes.plainhead import plain_head
from threescribes.walks import head_of


class PlainHeads(unittest.TestCase):
    def check(self, head, longest=None, long=(9, 25, 60)):
        self.assertTrue(is_head(head))
        found = plain_head(head)
        self.assertTrue(is_head(found))
        self.assertTrue(is_plain(found))
        self.assertEqual((len(found[2]), len(found[3])), (1, 1))
        self.assertEqual(found[1], head[1])
        chance = random.Random(130)
        letters = head[1]
        longest = longest or {1: 10, 2: 6, 3: 5}[len(letters)]
        words = texts(letters, longest) + ["".join(chance.choice(letters) for _ in range(many)) for many in long]
        for sign in letters:
            words += [sign * 40, letters[0] + sign * 41, sign * 42 + letters[-1], letters[-1] * 2 + sign * 37 + letters[0] * 2]
        values = 0
        for text in words:
            value = walk(head, text) if len(text) < 30 else run_head(head, text)
            values += value is not None
            self.assertEqual(run_head(found, text), value, (head, text))
        return found, values

    def test_named_heads(self):
        for head in NAMED:
            self.check(head)

    def test_heads_that_are_plain(self):
        self.assertLessEqual(len(self.check(COPY)[0][4]), 4)
        self.assertLessEqual(len(self.check(NEVER)[0][4]), 4)

    def test_each_number_of_classes(self):
        chance = random.Random(131)
        for lefts in (1, 2, 3):
            for rights in (1, 2, 3):
                found = 0
                for _ in range(12):
                    head = any_head(chance, chance.choice(("a", "ab", "abc")), chance.randrange(1, 4), lefts, rights, chance.choice((0, 0.03)))
                    found += self.check(head, 4)[1]
                self.assertGreater(found, 20)

    def test_classes_that_come_to_the_same_by_a_letter(self):
        # Going to and fro at all places, what is written tells the classes on both sides.
        chance = random.Random(132)
        for _ in range(60):
            letters = chance.choice(("a", "ab"))
            lefts, rights = chance.randrange(2, 5), chance.randrange(2, 5)
            behind = tuple(tuple(chance.choice((0, left, chance.randrange(lefts))) for _ in letters) for left in range(lefts))
            ahead = tuple(tuple(chance.choice((0, right, chance.randrange(rights))) for _ in letters) for right in range(rights))
            self.check(self.telling(letters, behind, ahead), 6)

    def telling(self, letters, behind, ahead):
        """A head that goes to the right, to the left and to the right again, and writes both classes everywhere."""
        def column(state, step, mark):
            return tuple(tuple((state, step, "pqrs"[left] + "wxyz"[right]) for right in range(len(ahead))) for left in range(len(behind)))

        columns = [(column(0, 1, False),) * len(letters) + (column(0, 1, True), column(1, -1, True)),
                   (column(1, -1, False),) * len(letters) + (column(2, 1, True), column(1, -1, True)),
                   (column(2, 1, False),) * len(letters) + (column(2, 1, True), column(2, 1, True))]
        return ("head", letters, behind, ahead, tuple(columns))

    def test_classes_that_are_never_met_or_do_nothing_else(self):
        # One more left class that does what class 0 does, to which a letter leads, and one that is never met.
        behind = ((1, 3), (2, 1), (0, 2), (1, 3), (4, 0))
        moves = tuple(tuple(by_left + (by_left[0], (None,)) for by_left in numbers) for numbers in COUNTS[4])
        head = ("head", "ab", behind, COUNTS[3], moves)
        self.check(head)
        self.assertEqual(len(plain_head(head)[4]), len(plain_head(COUNTS)[4]))

    def test_states_that_do_the_same(self):
        # Each state twice: the copies lead to copies.
        many = len(COUNTS[4])
        copies = tuple(tuple(tuple(tuple(None if move is None else (move[0] + many,) + move[1:] for move in entries) for entries in by_left)
                             for by_left in numbers) for numbers in COUNTS[4])
        head = COUNTS[:4] + (copies + COUNTS[4],)
        self.check(head)
        self.assertEqual(len(plain_head(head)[4]), len(plain_head(COUNTS)[4]))

    def test_heads_of_box_machines(self):
        chance = random.Random(133)
        for _ in range(40):
            head = head_of(some_boxes(chance))
            if len(head[2]) < 20:
                self.check(head, 3)

    def test_what_is_given_stays(self):
        before = repr(BOTH_WAYS)
        plain_head(BOTH_WAYS)
        self.assertEqual(repr(BOTH_WAYS), before)
