import random
import unittest

from plainboxes import any_head, some_boxes, walk
from plainheads import (AT_LETTERS, BOTH_WAYS, COPY, COUNTS, COUNTS_RIGHT, ENDLESS, EVEN, NAMED, SIDES, STOPS, THRICE, TO_AND_FRO,
                        TURNED)
from plainly import texts
from threescribes.boxes import is_boxes, run_boxes
from threescribes.crossings import boxes_of_head
from threescribes.heads import is_head
from threescribes.plainhead import plain_head
from threescribes.walks import head_of


class BoxesOfHeads(unittest.TestCase):
    def check(self, head, longest=None, long=(9, 25, 60)):
        self.assertTrue(is_head(head))
        machine = boxes_of_head(head)
        self.assertTrue(is_boxes(machine))
        self.assertEqual(machine[1], head[1])
        self.assertLessEqual(machine[3], len(head[4]))
        chance = random.Random(120)
        longest = longest or {1: 10, 2: 6, 3: 5}[len(head[1])]
        words = texts(head[1], longest) + ["".join(chance.choice(head[1]) for _ in range(many)) for many in long]
        values = 0
        for text in words:
            value = walk(head, text)
            values += value is not None
            self.assertEqual(run_boxes(machine, text), value, (head, text))
        return machine, values

    def test_named_heads(self):
        for head in NAMED:
            self.check(head)

    def test_values_of_named_heads(self):
        for head, text, value in ((COPY, "abba", "abba"), (COPY, "", ""), (TURNED, "aab", "xbaayz"), (TURNED, "", "xyz"),
                                  (THRICE, "ab", "labrmabsabt"), (THRICE, "", "lrmst"), (AT_LETTERS, "aab", "aabycc"),
                                  (ENDLESS, "abab", "abab"), (ENDLESS, "baab", None), (STOPS, "bba", "byx"), (STOPS, "ab", None),
                                  (STOPS, "ac", None), (SIDES, "ab", "nanbanbn"), (SIDES, "", "nnnn"),
                                  (TO_AND_FRO, "abb", "pbbs"), (TO_AND_FRO, "bb", "r"), (TO_AND_FRO, "bba", "ps"), (EVEN, "aa", "exxf"), (EVEN, "a", None)):
            self.assertEqual(walk(head, text), value)
            self.assertEqual(run_boxes(boxes_of_head(head), text), value)

    def test_as_few_boxes_as_there_are_stretches_with_something_in_them(self):
        self.assertEqual([boxes_of_head(head)[3] for head in (COPY, TURNED, THRICE)], [1, 2, 3])
        self.assertLessEqual(boxes_of_head(BOTH_WAYS)[3], 3)

    def test_stretches_between_which_nothing_is_written_share_a_box(self):
        # Plain heads go to and fro to know the classes.
        for head in (COPY, TURNED, THRICE, COUNTS, COUNTS_RIGHT):
            self.assertEqual(boxes_of_head(plain_head(head))[3], boxes_of_head(head)[3])

    def test_one_letter(self):
        chance = random.Random(121)
        found = 0
        for _ in range(60):
            head = any_head(chance, "a", chance.randrange(1, 5), chance.randrange(1, 4), chance.randrange(1, 4), 0.03)
            found += self.check(head)[1]
        self.assertGreater(found, 150)

    def test_two_and_three_letters(self):
        chance = random.Random(122)
        found = 0
        for _ in range(120):
            head = any_head(chance, chance.choice(("ab", "abc", "cxz")), chance.randrange(1, 5), chance.randrange(1, 4),
                            chance.randrange(1, 4), chance.choice((0, 0.03)))
            found += self.check(head, 4)[1]
        self.assertGreater(found, 800)

    def test_heads_of_box_machines(self):
        chance = random.Random(123)
        for _ in range(40):
            self.check(head_of(some_boxes(chance)), 3)

    def test_what_is_given_stays(self):
        before = repr(BOTH_WAYS)
        boxes_of_head(BOTH_WAYS)
        self.assertEqual(repr(BOTH_WAYS), before)
