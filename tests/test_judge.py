import random
import unittest

import plainpapers as plain
from plainly import texts
from plainboxes import run
from plainpairs import changed, doubled, small_boxes
from test_alike import AHEAD, BACK, CONSTANT, COPY, NO_VALUE, ONLY_EMPTY, STOPPED, TWICE
from threescribes.alike import alike
from threescribes.boxes import is_boxes
from threescribes.judge import takes
from threescribes.spaces import vector_of

# Over "a": both have the value "b" for each letter, one of them by two states, the other one by two classes as well.
ONE = ("boxes", "a", ((0,),), 1, ((((1, ((0, "b"),)),),), (((0, (("b", 0),)),),)), ((0,), (0,)))
OTHER = ("boxes", "a", ((1,), (0,)), 1, ((((0, ((0, "b"),)), (0, ((0, "b"),))),),), ((0,),))
# They stop behind an a and a b; texts without this have the value "".
STOPS_A = ("boxes", "ab", ((0, 0),), 0, ((((1, ()),), ((0, ()),)), (((1, ()),), (None,))), ((), ()))
STOPS_B = ("boxes", "ab", ((0, 0),), 0, ((((1, ()),), ((0, ()),)), (((1, ()),), ((2, ()),)), ((None,), (None,))), ((), (), None))


def put(row, at, thing):
    return row[:at] + (thing,) + row[at + 1:]


def at_node(paper, at, part, thing):
    """The paper with another node, other vectors or other steps in one of its entries."""
    return (paper[0], put(paper[1], at, put(paper[1][at], part, thing)))


class Papers(unittest.TestCase):
    def taken(self, one, other, paper):
        found = takes(one, other, paper)
        self.assertIs(found, plain.fault(one, other, paper) is None)
        return found

    def refused(self, one, other, paper, why):
        self.assertEqual(plain.fault(one, other, paper), why)
        self.assertIs(takes(one, other, paper), False)

    def test_papers_of_alike(self):
        for machine in (COPY, BACK, TWICE, AHEAD, NO_VALUE, STOPPED, CONSTANT, ONLY_EMPTY, ONE, OTHER):
            self.assertIs(takes(machine, machine, alike(machine, machine)[1]), True)
        for one, other in ((ONE, OTHER), (OTHER, ONE), (STOPS_A, STOPS_B), (NO_VALUE, STOPPED)):
            self.assertTrue(self.taken(one, other, alike(one, other)[1]))
        chance = random.Random(150)
        for _ in range(40):
            one = small_boxes(chance)
            other = doubled(chance, one)
            paper = alike(one, other)[1]
            self.assertTrue(self.taken(one, other, paper))
            other = changed(chance, one)
            if takes(one, other, alike(one, one)[1]):
                self.assertEqual([text for text in texts(one[1], 4) if run(one, text) != run(other, text)], [])

    def test_ends_ahead_of_a_letter(self):
        # One of them has an end behind the last letter alone, which matters nowhere else.
        one = ("boxes", "a", ((0,),), 0, ((((0, ()),),),), (("w",),))
        other = ("boxes", "a", ((1,), (1,)), 0, ((((0, ()), (1, ())),), (((0, ()), (1, ())),)), (("w",), None))
        unlike = other[:5] + ((("w",), ("v",)),)
        for machine in (other, unlike):
            for pair in ((one, machine), (machine, one), (machine, machine)):
                self.assertTrue(self.taken(pair[0], pair[1], alike(pair[0], pair[1])[1]))

    def test_a_paper_by_hand(self):
        # Letters double the number of boxes; 27 and 2 are the weight and the digit of b. All is written over two vectors.
        empty, one_b, two_b = [vector_of(("b" * many,)) * 2 for many in range(3)]
        # The vector of n letters is linear in 27 ** n: (1, w, (w - 1) / 13).
        self.assertEqual(two_b, tuple(28 * y - 27 * x for x, y in zip(empty, one_b)))
        steps = ((1, (0, 1)), (1, (-27, 28)))
        pairs = ((0, 0), (0, 1))
        entries = tuple(((state, 0, 0, d), (empty, one_b), tuple((step,) for step in steps)) for state in (0, 1) for d in (0, 1))
        paper = (tuple((1, (1, 0)) for _ in pairs), entries)
        self.assertTrue(self.taken(ONE, OTHER, paper))
        # The same with vectors that are no vectors of values, and with greater numbers in the writings.
        unlike = tuple(y - x for x, y in zip(empty, one_b))
        steps = ((3, (3, 3)), (1, (0, 27)))
        entries = tuple((entry[0], (empty, unlike), tuple((step,) for step in steps)) for entry in entries)
        self.assertTrue(self.taken(ONE, OTHER, (((2, (2, 0)), (1, (1, 0))), entries)))
        # Vectors that can be written over others may stand there, and those that are 0.
        more = (empty, unlike, (0,) * 6)
        steps = ((1, (1, 1, 7)), (1, (0, 27, 0)), (5, (0, 0, 1)))
        entries = tuple((entry[0], more, tuple((step,) for step in steps)) for entry in entries)
        self.assertTrue(self.taken(ONE, OTHER, (((1, (1, 0, -4)), (1, (1, 0, 0))), entries)))

    def test_nodes_to_which_no_text_leads(self):
        paper = alike(STOPS_A, STOPS_A)[1]
        self.assertEqual([entry[0] for entry in paper[1]], [(0, 0, 0, 0), (1, 0, 1, 0)])
        # A node with no vectors at all asks for nothing but that it is no parting node.
        for node in ((0, 0, 1, 0), (1, 0, 0, 0)):
            nodes = tuple(sorted(paper[1] + ((node, (), ()),)))
            self.assertTrue(self.taken(STOPS_A, STOPS_A, (paper[0], nodes)))
        self.refused(STOPS_A, STOPS_A, (paper[0], (((-1, 0, 0, 0), (), ()),) + paper[1]), "parting")
        # With a vector it asks for the nodes behind it.
        node = ((0, 0, 1, 0), ((1, 1),), (((1, ()), (1, ())),))
        self.refused(STOPS_A, STOPS_A, (paper[0], tuple(sorted(paper[1] + (node,)))), "writing")
        self.refused(STOPS_A, STOPS_A, (paper[0], tuple(sorted(paper[1] + ((node[0], ((0, 0),), (((1, (0,)), (1, ())),)),)))), "writing")

    def test_steps_that_lead_to_nothing(self):
        begins, nodes = alike(STOPS_A, STOPS_A)[1]
        self.assertEqual(nodes[1], ((1, 0, 1, 0), ((1, 1),), (((1, (1,)), None),)))
        for writing in ((1, (0,)), (1, ()), (1, (1,)), False, 0, ()):
            self.refused(STOPS_A, STOPS_A, at_node((begins, nodes), 1, 2, (((1, (1,)), writing),)), "nothing")
        for writing in (None, (1, (0,)), (1, ()), (1,), ()):
            self.refused(STOPS_A, STOPS_A, at_node((begins, nodes), 1, 2, ((writing, None),)), "writing")
        # Where one machine has stopped its members are 0.
        begins, nodes = alike(STOPS_A, STOPS_B)[1]
        self.assertIn(((-1, 0, 2, 0), ((0, 1),), ((None, None),)), nodes)

    def test_what_is_nothing_like_a_paper(self):
        paper = alike(COPY, COPY)[1]
        for thing in (None, True, False, 0, 1, "", "paper", (), (1,), (1, 2), ((), ()), ((), (), ()), (None, None), ("", ""), paper[0], paper[1],
                      paper + ((),), paper[:1], (paper[1], paper[0]), ("alike", paper), (paper[0], "x"), (paper[0], (None,)), (paper[0], ((),)),
                      (paper[0], (True,)), (paper[0], ("abc",)), (paper[0], (((0, 0, 0, 0), (), ()),)), ((None,), paper[1]), (True, paper[1]),
                      (paper[0], None), (paper[0], ()), (((),), paper[1]), (((1,),), paper[1]), (("ab",), paper[1])):
            self.assertFalse(self.taken(COPY, COPY, thing), thing)

    def test_nodes_that_are_no_nodes(self):
        paper = alike(COPY, COPY)[1]
        for node in ((-1, 0, -1, 0), (1, 0, 0, 0), (0, 0, 1, 0), (0, 1, 0, 0), (0, 0, 0, 1), (-2, 0, 0, 0), (0, 0, -2, 0), (0, -1, 0, 0), (0, 0, 0), (0, 0, 0, 0, 0),
                     (False, 0, 0, 0), (0, 0, 0, False), ("0", 0, 0, 0), (None, 0, 0, 0), (0, (0,), 0, 0)):
            more = (node, (), ())
            self.refused(COPY, COPY, (paper[0], (more,) + paper[1]), "node")
            self.refused(COPY, COPY, (paper[0], paper[1] + (more,)), "node")
        for node in (None, 0, "node", True):
            self.refused(COPY, COPY, (paper[0], paper[1] + ((node, (), ()),)), "entry")
        # Pairs of classes that no text has as a rest are no class pairs.
        paper = alike(AHEAD, AHEAD)[1]
        more = tuple(sorted(paper[1] + (((0, 1, 0, 2), (), ()),)))
        self.refused(AHEAD, AHEAD, (paper[0], more), "node")

    def test_the_order_of_nodes(self):
        paper = alike(STOPS_A, STOPS_A)[1]
        self.refused(STOPS_A, STOPS_A, (paper[0], paper[1][::-1]), "order")
        self.refused(STOPS_A, STOPS_A, (paper[0], paper[1] + paper[1][1:]), "order")
        self.refused(STOPS_A, STOPS_A, (paper[0], paper[1][:1] + paper[1]), "order")

    def test_missing_nodes(self):
        paper = alike(STOPS_A, STOPS_A)[1]
        self.refused(STOPS_A, STOPS_A, (paper[0], paper[1][:1]), "writing")
        self.refused(STOPS_A, STOPS_A, (paper[0], paper[1][1:]), "begin")

    def test_vectors_of_another_length_or_kind(self):
        paper = alike(COPY, COPY)[1]
        vectors = paper[1][0][1]
        for vector in (vectors[0] + (0,), vectors[0][:-1], (), vectors[0][:3], None, 1, "abcdef", vectors[0][:-1] + (True,), (True,) + vectors[0][1:],
                       vectors[0][:-1] + ("1",), vectors[0][:-1] + (None,), vectors[0][:-1] + ((1,),)):
            self.refused(COPY, COPY, at_node(paper, 0, 1, put(vectors, 0, vector)), "vector")
        for thing in (None, "", 0, True):
            self.refused(COPY, COPY, at_node(paper, 0, 1, thing), "entry")

    def test_too_few_or_too_many_steps(self):
        paper = alike(COPY, COPY)[1]
        steps = paper[1][0][2]
        for thing in (steps[:-1], steps + steps[:1], (), (None,) * len(steps), (0,) + steps[1:], ("ab",) + steps[1:]):
            self.refused(COPY, COPY, at_node(paper, 0, 2, thing), "steps")
        for thing in (steps[0][:-1], steps[0] + steps[0][:1], ()):
            self.refused(COPY, COPY, at_node(paper, 0, 2, put(steps, 0, thing)), "writings")

    def test_writings(self):
        paper = alike(COPY, COPY)[1]
        steps = paper[1][0][2]
        times, parts = steps[1][0]
        for writing in ((0, parts), (-times, tuple(-part for part in parts)), (0, (0,) * len(parts)), (True, parts), (times, parts + (0,)), (times, parts[:-1]),
                        (times, ()), (times, list(parts)), (times,), (times, parts, 0), (times + 1, parts), (times, put(parts, 0, parts[0] + 1)),
                        (times, put(parts, 0, False)), (times, put(parts, 0, True)), ("1", parts), (None, parts), (times, None), (times, "a" * len(parts)), None, 0, True):
            self.refused(COPY, COPY, at_node(paper, 0, 2, put(steps, 1, put(steps[1], 0, writing))), "writing")
        self.assertTrue(self.taken(COPY, COPY, at_node(paper, 0, 2, put(steps, 1, put(steps[1], 0, (3 * times, tuple(3 * part for part in parts)))))))

    def test_true_and_false_are_no_integers(self):
        paper = alike(STOPS_A, STOPS_A)[1]
        self.assertEqual(paper[0], ((1, (1,)),))
        for begins in (((True, (1,)),), ((1, (True,)),)):
            self.refused(STOPS_A, STOPS_A, (begins, paper[1]), "begin")
        self.refused(STOPS_A, STOPS_A, at_node(paper, 0, 1, ((1, True),)), "vector")
        self.refused(STOPS_A, STOPS_A, at_node(paper, 0, 2, (((1, (True,)), (1, (1,))),)), "writing")
        self.refused(STOPS_A, STOPS_A, at_node(paper, 1, 0, (True, 0, True, 0)), "node")

    def test_begins(self):
        paper = alike(AHEAD, AHEAD)[1]
        begins, nodes = paper
        self.assertEqual(len(begins), 3)
        for thing in (begins[:-1], begins + begins[:1], ()):
            self.refused(AHEAD, AHEAD, (thing, nodes), "begins")
        # The writings of the pairs are over unlike vectors, so their order matters.
        one, other = ONE, OTHER
        begins, nodes = alike(one, other)[1]
        empty = vector_of(("",)) * 2
        unlike = ((nodes[0][0], nodes[0][1] + (empty,), tuple(steps for steps in nodes[0][2] + nodes[0][2][:1])),) + nodes[1:]
        self.assertEqual([entry[0] for entry in nodes if entry[0][0] == 0], [(0, 0, 0, 0), (0, 0, 0, 1)])
        there = {entry[0]: len(entry[1]) for entry in unlike}
        longer = tuple((begins[at][0], begins[at][1] + (0,) * (there[(0, 0, 0, at)] - len(begins[at][1]))) for at in (0, 1))
        whole = tuple((entry[0], entry[1], tuple(tuple((times, parts + (0,) * (there[goal] - len(parts))) for (times, parts), (_, goal)
                                                       in zip(writings, plain.steps_of(one, other, entry[0]))) for writings in entry[2])) for entry in unlike)
        self.assertTrue(self.taken(one, other, (longer, whole)))
        self.refused(one, other, (longer[::-1], whole), "begin")
        for writing in (None, (1, ()), (0, (1, 0)), (2, (1, 0)), 7):
            self.refused(one, other, (put(begins, 1, writing), nodes), "begin")

    def test_parting_nodes_and_vectors_that_are_not_level(self):
        # A paper that keeps all but this.
        paper = alike(COPY, COPY)[1]
        other = COPY[:5] + (((0, "x"),),)
        self.refused(COPY, other, paper, "level")
        self.refused(other, COPY, paper, "level")
        self.refused(COPY, COPY[:5] + ((None,),), paper, "parting")
        self.refused(COPY[:5] + ((None,),), COPY, paper, "parting")
        self.assertTrue(self.taken(COPY[:5] + ((None,),), COPY[:5] + ((None,),), paper))
        self.assertTrue(self.taken(other, other, paper))
        # A vector to which no text leads has to be level as well.
        begins, nodes = paper
        node, vectors, steps = nodes[0]
        lonely = (0, 0, 1, 0, 0, 0)
        images = tuple((1, (0,) * len(vectors) + (27,)) for _ in "ab")
        with_more = tuple(tuple((times, parts + (0,)) for times, parts in writings) for writings in steps)
        more = ((tuple((times, parts + (0,)) for times, parts in begins)), ((node, vectors + (lonely,), with_more + (images,)),))
        self.assertEqual(plain.image_at(COPY, COPY, node, (0, 0, 0), lonely), (0, 0, 27, 0, 0, 0)[:6])
        self.refused(COPY, COPY, more, "level")

    def test_papers_for_other_machines(self):
        for one, other in ((COPY, BACK), (COPY, TWICE), (BACK, COPY), (CONSTANT, ONLY_EMPTY), (NO_VALUE, CONSTANT)):
            for machine in (one, other):
                self.assertIs(takes(one, other, alike(machine, machine)[1]), False)

    def test_whatever_is_taken_the_machines_are_alike(self):
        # Papers of some machine, with small changes, for that machine and a changed one.
        chance = random.Random(151)
        taken = 0
        for _ in range(150):
            one = small_boxes(chance, ("a", "ab"), 1)
            other = changed(chance, one)
            self.assertTrue(is_boxes(other))
            if len(other[2]) == len(one[2]):
                paper = alike(one, one)[1]
                if self.taken(one, other, paper):
                    taken += 1
                    self.assertEqual(alike(one, other)[0], "alike")
        self.assertGreater(taken, 5)

    def test_what_is_given_stays(self):
        paper = alike(COPY, COPY)[1]
        before = repr((COPY, paper))
        takes(COPY, COPY, paper)
        self.assertEqual(repr((COPY, paper)), before)
