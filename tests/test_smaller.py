import random
import unittest

from plainboxes import any_boxes, run, some_boxes, values
from threescribes.boxes import is_boxes
from threescribes.smaller import smaller

EXAMPLE = ("boxes", "ab", ((0, 0),), 1, ((((0, ((0, "x"),)),), ((0, (("y", 0),)),)),), ((0,),))


def entries_of(machine):
    """All entries that are not None, each with its state, letter and class."""
    return [(q, k, c, entry) for q, by_letter in enumerate(machine[4]) for k, entries in enumerate(by_letter)
            for c, entry in enumerate(entries) if entry is not None]


def spread(begun, pairs):
    """All that is begun with or met by pairs of one thing and another behind it."""
    met = set(begun)
    while True:
        more = {behind for ahead, behind in pairs if ahead in met} - met
        if not more:
            return met
        met |= more


def met_order(steps):
    """Numbers in the order in which they are first met, going through them by their numbers (2.5)."""
    met = [0]
    for number in range(len(steps)):
        met += [goal for at, goal in enumerate(steps[number]) if goal not in met + steps[number][:at]]
    return met


def equivalent(many, alike, behind):
    """The pairs of the coarsest equivalence in which pairs are alike and so is what is behind them."""
    pairs = {(p, q) for p in range(many) for q in range(p) if alike(p, q)}
    while True:
        fewer = {(p, q) for p, q in pairs
                 if all(x == y or (max(x, y), min(x, y)) in pairs for x, y in zip(behind(p), behind(q)))}
        if fewer == pairs:
            return pairs
        pairs = fewer


def wrong_of(machine):
    """The line of 2.5 that does not hold of a machine, or None."""
    _, letters, ahead, many, rows, ends = machine
    entries = entries_of(machine)
    if met_order([list(classes) for classes in ahead]) != list(range(len(ahead))):
        return "classes reachable and in order"
    if met_order([[e[0] for k in rows[q] for e in k if e is not None] for q in range(len(rows))]) != list(range(len(rows))):
        return "states reachable and in order"
    live = spread([q for q, end in enumerate(ends) if end is not None], [(entry[0], q) for q, _, _, entry in entries])
    if any(entry[0] not in live for _, _, _, entry in entries):
        return "an end ahead"
    used = [(into, box) for _, _, _, entry in entries for into, row in enumerate(entry[1]) for box in row
            if not isinstance(box, str)]
    if len(spread([box for end in ends if end for box in end if not isinstance(box, str)], used)) != many:
        return "boxes matter"

    def news(q):
        return [entry and entry[1] for by_class in rows[q] for entry in by_class]

    def goals(q):
        return [entry and entry[0] for by_class in rows[q] for entry in by_class]

    def alike(p, q):
        return ends[p] == ends[q] and news(p) == news(q)

    def columns(c, d):
        return all(by_class[c] == by_class[d] for by_letter in rows for by_class in by_letter)

    if equivalent(len(rows), alike, lambda q: [-1 if goal is None else goal for goal in goals(q)]):
        return "no equivalent states"
    if equivalent(len(ahead), columns, lambda c: ahead[c]):
        return "no equivalent classes"
    return None


class OneByOne(unittest.TestCase):
    def check(self, machine, expected):
        self.assertTrue(is_boxes(machine))
        self.assertTrue(is_boxes(expected))
        self.assertEqual(smaller(machine), expected)
        self.assertEqual(values(machine, run, 5), values(expected, run, 5))
        self.assertIsNone(wrong_of(expected))

    def test_what_is_as_small_already(self):
        self.check(EXAMPLE, EXAMPLE)
        two = ("boxes", "a", ((1,), (0,)), 1, ((((0, ((0, "x"),)), (0, (("y", 0),))),),), ((0,),))
        self.check(two, two)

    def test_states_that_are_not_reachable(self):
        rows = ((((0, ((0, "x"),)),),), (((0, ((0, "y"),)),),))
        self.check(("boxes", "a", ((0,),), 1, rows, ((0,), (0, "z"))), ("boxes", "a", ((0,),), 1, rows[:1], ((0,),)))

    def test_classes_that_are_not_reachable(self):
        rows = ((((0, ((0, "x"),)), (1, ((0, "y"),))),), (((0, ((0, "y"),)),) * 2,))
        # Only with the class 1 is the state 1 behind the state 0, so that is not reachable either.
        self.check(("boxes", "a", ((0,), (0,)), 1, rows, ((0,), (0, "z"))),
                   ("boxes", "a", ((0,),), 1, ((((0, ((0, "x"),)),),),), ((0,),)))

    def test_entries_behind_which_there_is_no_end(self):
        rows = ((((0, ((0, "x"),)),), ((1, ((0,),)),)), (((1, ((0,),)),), ((2, ((0,),)),)), (((2, ((0,),)),), (None,)))
        self.check(("boxes", "ab", ((0, 0),), 1, rows, ((0,), None, None)),
                   ("boxes", "ab", ((0, 0),), 1, ((((0, ((0, "x"),)),), (None,)),), ((0,),)))

    def test_states_that_are_reachable_by_lost_entries_alone(self):
        rows = ((((1, ()),), ((2, ()),)), (((3, ()),), (None,)), (((2, ()),), ((2, ()),)), ((None,), (None,)))
        self.check(("boxes", "ab", ((0, 0),), 0, rows, (None, None, None, ("x",))),
                   ("boxes", "ab", ((0, 0),), 0, ((((1, ()),), (None,)), (((2, ()),), (None,)), ((None,), (None,))),
                    (None, None, ("x",))))

    def test_no_end_at_all(self):
        for letters in ("a", "ab", "abc"):
            empty = ("boxes", letters, ((0,) * len(letters),), 0, (((None,),) * len(letters),), (None,))
            self.check(empty, empty)
            for seed in range(5):
                self.check(any_boxes(random.Random(seed), letters, 3, 3, 2, 0.1, 1), empty)
        # There is an end, but no entry leads there.
        self.check(("boxes", "a", ((0,),), 1, (((None,),), (((0, ((0,),)),),)), (None, (0,))),
                   ("boxes", "a", ((0,),), 0, (((None,),),), (None,)))

    def test_no_value_although_there_are_ends(self):
        # The class of the rest is 0 only at the end: no text leads to the end, but entries do.
        machine = ("boxes", "a", ((1,), (1,)), 0, (((None, (1, ())),), ((None, None),)), (None, ("x",)))
        self.assertEqual(set(values(machine, run, 6).values()), {None})
        self.check(machine, machine)

    def test_boxes_that_come_into_no_value(self):
        self.check(("boxes", "a", ((0,),), 2, ((((0, ((0, "x"), (1, "y"))),),),), ((0,),)),
                   ("boxes", "a", ((0,),), 1, ((((0, ((0, "x"),)),),),), ((0,),)))
        self.check(("boxes", "a", ((0,),), 2, ((((0, ((0, "x"), (1, "y"))),),),), (("w", 1),)),
                   ("boxes", "a", ((0,),), 1, ((((0, ((0, "y"),)),),),), (("w", 0),)))
        self.check(("boxes", "a", ((0,),), 1, ((((0, ((0, "x"),)),),),), (("w",),)),
                   ("boxes", "a", ((0,),), 0, ((((0, ()),),),), (("w",),)))

    def test_boxes_that_come_only_into_such_boxes(self):
        news = ((0, "x"), (2,), ("z", 1))
        self.check(("boxes", "a", ((0,),), 3, ((((0, news),),),), ((0,),)),
                   ("boxes", "a", ((0,),), 1, ((((0, ((0, "x"),)),),),), ((0,),)))

    def test_boxes_that_come_into_a_value_by_others(self):
        news = ((1, "x"), (2,), ("z",))
        machine = ("boxes", "a", ((0,),), 3, ((((0, news),),),), ((0,),))
        self.check(machine, machine)

    def test_boxes_that_come_into_a_value_only_where_no_text_leads(self):
        rows = ((((0, ((0, "x"), (1, "y"))),),), (((0, ((0, 1), ())),),))
        self.check(("boxes", "a", ((0,),), 2, rows, ((0,), (1,))),
                   ("boxes", "a", ((0,),), 1, ((((0, ((0, "x"),)),),),), ((0,),)))

    def test_equivalent_states(self):
        rows = tuple(((((q + 1) % 4, (((0, "x") if q % 2 else (0,)),)),),) for q in range(4))
        self.check(("boxes", "a", ((0,),), 1, rows, ((0,),) * 4), ("boxes", "a", ((0,),), 1, rows[:1] + (
            (((0, ((0, "x"),)),),),), ((0,),) * 2))
        # None is not the same as an entry, and unlike ends are not the same.
        for last in ((((0, ((0,),)),),), ((None,),)):
            rows = ((((1, ((0,),)),),), last)
            for ends in (((0,), (0,)), ((0,), (0, "x")), ((0,), None), (None, (0,))):
                machine = ("boxes", "a", ((0,),), 1, rows, ends)
                states = 1 if ends[0] == ends[1] and last[0] != (None,) else 2
                found = smaller(machine)
                self.assertEqual(len(found[5]), states if last[0] != (None,) or ends[1] else 1, machine)
                self.assertEqual(values(found, run, 5), values(machine, run, 5))

    def test_states_that_are_equivalent_without_the_boxes_that_do_not_matter(self):
        rows = ((((1, ((0, "x"), (1, "y"))),),), (((0, ((0, "x"), ())),),))
        self.check(("boxes", "a", ((0,),), 2, rows, ((0,), (0,))),
                   ("boxes", "a", ((0,),), 1, ((((0, ((0, "x"),)),),),), ((0,),)))

    def test_equivalent_classes(self):
        one, other = (0, ((0, "x"),)), (0, (("y", 0),))
        self.check(("boxes", "a", ((1,), (2,), (0,)), 1, (((one, one, one),),), ((0,),)),
                   ("boxes", "a", ((0,),), 1, (((one,),),), ((0,),)))
        self.check(("boxes", "a", ((1,), (2,), (3,), (0,)), 1, (((one, other, one, other),),), ((0,),)),
                   ("boxes", "a", ((1,), (0,)), 1, (((one, other),),), ((0,),)))
        unlike = ("boxes", "a", ((1,), (2,), (2,)), 1, (((one, one, other),),), ((0,),))
        self.check(unlike, unlike)

    def test_classes_that_become_equivalent_when_states_are_merged(self):
        step = ((0,),)
        rows = (((1, step), (2, step)),), (((0, step), (0, step)),), (((0, step), (0, step)),)
        self.check(("boxes", "a", ((1,), (0,)), 1, rows, ((0,), (0, "x"), (0, "x"))),
                   ("boxes", "a", ((0,),), 1, ((((1, step),),), (((0, step),),)), ((0,), (0, "x"))))

    def test_states_that_differ_only_at_a_class_that_is_not_reachable(self):
        step, other = ((0,),), ((0, "x"),)
        rows = (((1, step), (1, other)),), (((0, step), (0, step)),)
        self.check(("boxes", "a", ((0,), (0,)), 1, rows, ((0,), (0,))),
                   ("boxes", "a", ((0,),), 1, ((((0, step),),),), ((0,),)))

    def test_classes_that_differ_only_at_a_state_that_is_not_reachable(self):
        step, other = ((0,),), ((0, "x"),)
        rows = (((0, step), (0, step)),), (((0, step), (0, other)),)
        self.check(("boxes", "a", ((1,), (0,)), 1, rows, ((0,), (0,))),
                   ("boxes", "a", ((0,),), 1, ((((0, step),),),), ((0,),)))

    def test_classes_that_differ_only_at_lost_entries(self):
        step = ((0,),)
        rows = (((0, step), (0, step)), (None, (1, step))), ((None, None), (None, None))
        self.check(("boxes", "ab", ((1, 0), (0, 1)), 1, rows, ((0,), None)),
                   ("boxes", "ab", ((0, 0),), 1, ((((0, step),), (None,)),), ((0,),)))

    def test_the_numbering_of_states(self):
        # From 0 the letters a, b lead to 3 and 1, from 3 to 2 and 0.
        goals = ((3, 1), (1, 1), (2, 3), (2, 0))
        rows = tuple(tuple(((goal, ()),) for goal in steps) for steps in goals)
        ends = (("s",), ("t",), ("u",), ("v",))
        told = ((1, 2), (3, 0), (2, 2), (3, 1))
        self.check(("boxes", "ab", ((0, 0),), 0, rows, ends),
                   ("boxes", "ab", ((0, 0),), 0, tuple(tuple(((goal, ()),) for goal in steps) for steps in told),
                    (("s",), ("v",), ("t",), ("u",))))

    def test_the_numbering_of_classes_and_of_states_by_classes(self):
        # Classes are met in the order 0, 2, 1; with the class 2 the state 1 is met, with 1 the state 2.
        ahead = ((2,), (0,), (1,))
        rows = (((0, ()), (2, ()), (1, ())),), (((1, ()),) * 3,), ((None,) * 3,)
        self.check(("boxes", "a", ahead, 0, rows, (("s",), ("t",), ("u",))),
                   ("boxes", "a", ((1,), (2,), (0,)), 0,
                    ((((0, ()), (1, ()), (2, ())),), (((1, ()),) * 3,), ((None,) * 3,)), (("s",), ("t",), ("u",))))
        rows = (((0, ()), (1, ()), (2, ())),), (((1, ()),) * 3,), ((None,) * 3,)
        self.check(("boxes", "a", ahead, 0, rows, (("s",), ("t",), ("u",))),
                   ("boxes", "a", ((1,), (2,), (0,)), 0,
                    ((((0, ()), (1, ()), (2, ())),), ((None,) * 3,), (((2, ()),) * 3,)), (("s",), ("u",), ("t",))))

    def test_the_numbering_goes_by_letters_and_then_by_classes(self):
        ahead = ((1, 0), (0, 1))
        rows = (((1, ()), (3, ())), ((2, ()), (1, ()))), (((1, ()),) * 2,) * 2, ((None,) * 2,) * 2, (((2, ()),) * 2,) * 2
        self.check(("boxes", "ab", ahead, 0, rows, (("s",), ("t",), ("u",), ("v",))),
                   ("boxes", "ab", ahead, 0, ((((1, ()), (2, ())), ((3, ()), (1, ()))), (((1, ()),) * 2,) * 2,
                                              (((3, ()),) * 2,) * 2, ((None,) * 2,) * 2),
                    (("s",), ("t",), ("v",), ("u",))))


class AtRandom(unittest.TestCase):
    def check(self, machine, longest):
        found = smaller(machine)
        self.assertTrue(is_boxes(found))
        self.assertIsNone(wrong_of(found), machine)
        self.assertEqual(found[1], machine[1])
        self.assertLessEqual(len(found[2]), len(machine[2]))
        self.assertLessEqual(found[3], machine[3])
        self.assertLessEqual(len(found[5]), len(machine[5]))
        self.assertEqual(smaller(found), found)
        self.assertEqual(values(found, run, longest), values(machine, run, longest), machine)
        return found

    def test_machines_at_random(self):
        chance = random.Random(30)
        for _ in range(400):
            self.check(some_boxes(chance), 4)

    def test_machines_with_few_kinds_of_entries(self):
        chance = random.Random(31)
        fewer = {"states": 0, "classes": 0, "boxes": 0}
        for _ in range(400):
            letters = chance.choice(("a", "ab"))
            machine = any_boxes(chance, letters, 4, 4, 2, 0, 0.3)
            kinds = [((0, "x"), (1,)), ((0,), ()), ((0,), (1,))][:chance.randrange(1, 4)]
            goals = [chance.randrange(4) for _ in range(3)]
            rows = tuple(tuple(tuple(None if chance.random() < 0.1 else (chance.choice(goals), chance.choice(kinds))
                                     for _ in range(4)) for _ in letters) for _ in range(4))
            ends = tuple(chance.choice(((0,), (0,), None, (0, 1))) for _ in range(4))
            machine = machine[:4] + (rows, ends)
            found = self.check(machine, 4)
            for name, part in (("states", 5), ("classes", 2)):
                fewer[name] += len(found[part]) < 4
            fewer["boxes"] += found[3] < 2
        self.assertGreater(min(fewer.values()), 50, fewer)

    def test_a_machine_twice_over(self):
        # Each state and class is there twice, so each is merged again.
        chance = random.Random(32)
        for _ in range(100):
            machine = smaller(some_boxes(chance))
            states, classes = len(machine[5]), len(machine[2])
            ahead = tuple(tuple(goal + classes * chance.randrange(2) for goal in steps) for steps in machine[2] * 2)
            rows = tuple(tuple(tuple(entry and (entry[0] + states * chance.randrange(2), entry[1])
                                     for entry in entries * 2) for entries in by_letter) for by_letter in machine[4] * 2)
            self.assertEqual(smaller(machine[:2] + (ahead, machine[3], rows, machine[5] * 2)), machine)

    def test_what_is_given_stays(self):
        machine = some_boxes(random.Random(33))
        before = repr(machine)
        smaller(machine)
        self.assertEqual(repr(machine), before)

    def test_large_machines(self):
        chance = random.Random(34)
        machine = any_boxes(chance, "ab", 60, 40, 5, 0.1, 0.3)
        found = smaller(machine)
        self.assertTrue(is_boxes(found))
        for many in (0, 1, 5, 50):
            text = "".join(chance.choice("ab") for _ in range(many))
            self.assertEqual(run(found, text), run(machine, text))
        # A long circle of states that are all equivalent, and one of states that are all unlike.
        many = 300
        circle = tuple(((((q + 1) % many, ((0, "x"),)),),) for q in range(many))
        same = ("boxes", "a", ((0,),), 1, circle, ((0,),) * many)
        self.assertEqual(smaller(same), ("boxes", "a", ((0,),), 1, ((((0, ((0, "x"),)),),),), ((0,),)))
        unlike = ("boxes", "a", ((0,),), 1, circle, ((0,),) * (many - 1) + (None,))
        self.assertEqual(smaller(unlike), unlike)
