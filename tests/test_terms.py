import random
import unittest

from plainly import LEAVES, UNARY, BINARY, any_tree, deep_tree, nested
from plainterms import NAMES, Attempt, any_argument, any_term, wrong_place
from threescribes.errors import BadSign, Unexpected
from threescribes.settexts import print_set
from threescribes.terms import parse_term, print_term

A, B = ("letter", "a"), ("letter", "b")
COPY = ("copy", A)
EXAMPLE = ("chain", ("row", ("star", A), B), ("back", ("copy", ("any",))))
EACH_NAME = (("word", "w", A), COPY, ("pick", A, COPY, COPY), ("both", COPY, COPY), ("cut", COPY, COPY),
             ("each", COPY), ("back", COPY), ("chain", A, COPY), ("then", COPY, COPY))


def spaced(text, many):
    """A text of a term with so many spaces ahead of each token and behind the last one."""
    out, place, space = [], 0, " " * many
    text = text.replace(" ", "")
    while place < len(text):
        end = place + 1
        if text[place] in '"{':
            end = text.index('"' if text[place] == '"' else "}", end) + 1
        while text[place].isalpha() and text[end].isalpha():
            end += 1
        out += [space, text[place:end]]
        place = end
    return "".join(out) + space


class Printing(unittest.TestCase):
    def check(self, *pairs):
        for tree, text in pairs:
            with self.subTest(text=text):
                self.assertEqual(print_term(tree), text)
                self.assertEqual(parse_term(text), tree)

    def test_the_example(self):
        self.check((EXAMPLE, "chain({a*b}, back(copy({.})))"))

    def test_each_term(self):
        self.check(*zip(EACH_NAME, (
            'word("w", {a})', "copy({a})", "pick({a}, copy({a}), copy({a}))", "both(copy({a}), copy({a}))",
            "cut(copy({a}), copy({a}))", "each(copy({a}))", "back(copy({a}))", "chain({a}, copy({a}))",
            "then(copy({a}), copy({a}))")))

    def test_the_order_of_the_arguments(self):
        f, g = ("copy", A), ("word", "x", B)
        for name in ("both", "cut", "then"):
            self.check(((name, f, g), name + '(copy({a}), word("x", {b}))'), ((name, g, f), name + '(word("x", {b}), copy({a}))'))
        self.check((("pick", ("any",), f, g), 'pick({.}, copy({a}), word("x", {b}))'),
                   (("pick", ("never",), g, f), 'pick({[]}, word("x", {b}), copy({a}))'))

    def test_strings(self):
        for string in ("", "a", "z", "word", "abcdefghijklmnopqrstuvwxyz", "aaaa" * 50):
            self.check((("word", string, A), 'word("' + string + '", {a})'))

    def test_sets_as_part_one_prints_them(self):
        either = ("or", A, B)
        for tree, text in ((("star", either), "(a|b)*"), (("row", A, ("row", B, A)), "a(ba)"), (("nothing",), "()"),
                           (("never",), "[]"), (("not", ("star", A)), "!a*"), (("star", ("not", A)), "(!a)*"),
                           (("maybe", ("plus", ("any",))), ".+?")):
            self.check((("copy", tree), "copy({" + text + "})"), (("chain", tree, COPY), "chain({" + text + "}, copy({a}))"),
                       (("pick", tree, COPY, COPY), "pick({" + text + "}, copy({a}), copy({a}))"),
                       (("word", "", tree), 'word("", {' + text + "})"))


class ThereAndBack(unittest.TestCase):
    def check(self, tree):
        text = print_term(tree)
        self.assertEqual(parse_term(text), tree, text)
        self.assertEqual(text, text.strip())
        self.assertEqual(text.replace(", ", ""), text.replace(", ", "").replace(" ", "").replace(",", ""))
        self.assertEqual(parse_term(text.replace(" ", "")), tree, text)
        for many in (1, 3):
            self.assertEqual(parse_term(spaced(text, many)), tree, text)
        return text

    def test_each_term_within_each_other_one(self):
        for inner in EACH_NAME:
            for name, kinds in NAMES.items():
                for at, kind in enumerate(kinds):
                    if kind == "term":
                        arguments = [{"set": B, "term": COPY}[other] for other in kinds]
                        arguments[at] = inner
                        self.check((name,) + tuple(arguments))

    def test_sets_of_every_kind(self):
        for tree in list(LEAVES) + [(name, A) for name in UNARY] + [(name, A, B) for name in BINARY]:
            for outer in (tree, ("star", tree), ("not", tree), ("or", tree, tree), ("row", tree, tree)):
                for term in (("copy", outer), ("word", "ab", outer), ("pick", outer, COPY, COPY), ("chain", outer, COPY)):
                    self.check(term)

    def test_terms_at_random(self):
        chance = random.Random(50)
        for _ in range(300):
            term = any_term(chance, 5)
            self.assertTrue(self.check(term).startswith(term[0]))

    def test_deep_terms(self):
        chance = random.Random(51)
        for deep in (30, 100):
            for _ in range(30):
                term = any_term(chance, 1)
                while term_nested(term) < deep:
                    name = chance.choice(("pick", "both", "cut", "each", "back", "chain", "then"))
                    places = [at for at, kind in enumerate(NAMES[name]) if kind == "term"]
                    arguments = [any_argument(chance, kind, 2, None) for kind in NAMES[name]]
                    arguments[chance.choice(places)] = term
                    term = (name,) + tuple(arguments)
                self.assertEqual(term_nested(term), deep)
                self.check(term)

    def test_deep_sets(self):
        chance = random.Random(52)
        for _ in range(30):
            tree = deep_tree(chance, 30)
            self.assertEqual(nested(tree), 30)
            self.check(("pick", tree, ("copy", tree), ("chain", tree, ("word", "x", tree))))

    def test_parentheses_of_sets(self):
        for deep in (60, 100):
            self.assertEqual(parse_term("copy({" + "(" * deep + "a" + ")" * deep + "})"), COPY)
            self.assertEqual(parse_term("each(copy({" + "(" * deep + "()" + ")" * deep + "}))"),
                             ("each", ("copy", ("nothing",))))
            tree = A
            for _ in range(deep):
                tree = ("not", ("row", B, tree))
            self.assertEqual(parse_term("copy({" + "!(b" * deep + "a" + ")" * deep + "})"), ("copy", tree))

    def test_spaces_here_and_there(self):
        chance = random.Random(53)
        for _ in range(200):
            term = any_term(chance, 4)
            text = spaced(print_term(term), 1)
            # Spaces stand only between tokens there, so any number may stand for each.
            self.assertEqual(parse_term("".join(" " * chance.choice((0, 0, 1, 5)) if sign == " " else sign
                                                for sign in text)), term)
        self.assertEqual(parse_term('  word ( "w" , {a} )  '), ("word", "w", A))

    def test_long_texts(self):
        tree = COPY
        for _ in range(2000):
            tree = ("both", tree, COPY)
        self.assertEqual(print_term(parse_term(print_term(tree))), print_term(tree))
        self.assertEqual(print_set(parse_term("copy({" + "a" * 3000 + "})")[1]), "a" * 3000)

    def test_what_is_given_stays(self):
        term = any_term(random.Random(54), 5)
        before = repr(term)
        print_term(term)
        self.assertEqual(repr(term), before)


def term_nested(term):
    return 1 + max([term_nested(part) for part, kind in zip(term[1:], NAMES[term[0]]) if kind == "term"], default=0)


class Mistakes(unittest.TestCase):
    def check(self, error, *pairs):
        for text, place in pairs:
            with self.subTest(text=text):
                with self.assertRaises(error) as caught:
                    parse_term(text)
                self.assertIs(caught.exception.__class__, error)
                self.assertEqual(caught.exception.place, place)

    def test_the_examples(self):
        self.check(Unexpected, ("both(copy({a}) each", 15), ("wort", 3))

    def test_the_empty_text_and_spaces_alone(self):
        self.check(Unexpected, ("", 0), (" ", 1), ("     ", 5))

    def test_texts_cut_short_at_every_place(self):
        term = ("pick", ("row", ("never",), ("nothing",)), ("word", "xy", ("or", A, ("star", B))),
                ("chain", ("any",), ("then", ("each", COPY), ("back", ("cut", COPY, ("both", COPY, COPY))))))
        for text in (print_term(term), spaced(print_term(term), 2)):
            self.assertEqual(parse_term(text), term)
            for place in range(len(text.rstrip())):
                self.check(Unexpected, (text[:place], place))
                # Spaces at the end are wrong where they are within a token, otherwise the end is.
                with self.assertRaises(Unexpected) as caught:
                    parse_term(text[:place] + "  ")
                self.assertIn(caught.exception.place, (place, place + 2))
                self.assertEqual(caught.exception.place, wrong_place(text[:place] + "  "))

    def test_foreign_characters(self):
        foreign = "A Z 0 9 _ - ' / \\ ^ $ & ~ @ ` ; : < > = # \n \t \u00e4 \u00df \u03b1 \u0430 \uff41 \U0001d41a \u00a0"
        for sign in foreign.split(" "):
            self.check(BadSign, (sign, 0), ("copy({a}" + sign + ")", 8), ("copy({a" + sign + "})", 7),
                       ("copy({a})" + sign, 9), ('word("' + sign + '", {a})', 6), ("co" + sign + "py({a})", 2))

    def test_foreign_characters_beside_other_mistakes(self):
        self.check(BadSign, ("A wort", 0), ("wort A", 5), ("wort(#", 5), ("copy({a}))B", 10), ("#copy(", 0), ("}#{", 1),
                   ('word("a b;', 9), ("copy({a|*}-)", 10), ("copy({a|#*})", 8), ("both(copy({a}) each\n", 19), ("  1  2", 2))

    def test_wrong_names(self):
        self.check(Unexpected, ("a", 0), ("x", 0), ("worc", 3), ("wor", 3), ("w", 1), ("wa", 1), ("copi({a})", 3),
                   ("cat({a})", 1), ("chair({a})", 4), ("cutt(copy({a})", 3), ("cup", 2), ("bot(", 3), ("bath", 2),
                   ("bach", 3), ("beck", 1), ("pack", 1), ("pic({a}", 3), ("picks", 4), ("eachh", 4), ("ech", 1), ("eat", 2),
                   ("them", 3), ("the(", 3), ("ten", 1), ("copyx", 4), ("  wort", 5), ("each(wort", 8),
                   ("both(copy({a}), copi({a}))", 19), ("copy copy", 5), ("both(", 5), ("(", 0), ("()", 0))

    def test_spaces_within_tokens(self):
        self.check(Unexpected, ("co py({a})", 2), ("w ord", 1), ('word("a b", {a})', 7), ('word(" a", {a})', 6),
                   ('word("a ", {a})', 7), ("copy({a b})", 7), ("copy({ a})", 6), ("copy({a })", 7), ("copy({})", 6),
                   ("copy({[ ]})", 7), ("copy({a|  b})", 8), ("copy({( )})", 7), ("each(co py({a}))", 7))

    def test_the_wrong_kind(self):
        self.check(Unexpected, ('copy("a")', 5), ("word({a}, {a})", 5), ('word("a", "b")', 10), ('word("a", copy({a}))', 10),
                   ("each({a})", 5), ('each("a")', 5), ("copy(copy({a}))", 5), ("both({a}, copy({a}))", 5),
                   ("both(copy({a}), {a})", 16), ("pick(copy({a}), copy({a}), copy({a}))", 5), ("pick({a}, {a}, copy({a}))", 10),
                   ("pick({a}, copy({a}), {a})", 21), ("chain(copy({a}), {a})", 6), ("chain({a}, {a})", 11), ("{a}", 0),
                   ('"a"', 0), ("then(copy({a}), \"a\")", 16), ("copy(a)", 5), ("word(w, {a})", 5), ("copy((a))", 5))

    def test_arguments_too_few_and_too_many(self):
        self.check(Unexpected, ("copy()", 5), ("each()", 5), ("both()", 5), ("word()", 5), ("copy({a}, {a})", 8),
                   ("copy({a},)", 8), ('word("a")', 8), ('word("a", {a}, {a})', 13), ("both(copy({a}))", 14),
                   ("both(copy({a}), copy({a}), copy({a}))", 25), ("both(copy({a}),)", 15), ("cut(copy({a}),)", 14),
                   ("each(copy({a}), copy({a}))", 14), ("pick({a})", 8), ("pick({a}, copy({a}))", 19), ("then(copy({a}) )", 15),
                   ("pick({a}, copy({a}), copy({a}), copy({a}))", 30), ("chain({a})", 9), ("both(, copy({a}))", 5),
                   ("chain({a}, copy({a}), copy({a}))", 20), ("copy,({a})", 4), ("copy({a}{a})", 8), ("both(copy({a}),,copy({a}))", 15))

    def test_something_behind_the_end(self):
        self.check(Unexpected, ("copy({a}))", 9), ("copy({a}),", 9), ("copy({a})  copy({a})", 11), ("copy({a}) a", 10),
                   ('copy({a})"', 9), ("copy({a}){a}", 9), ("copy({a})  )  ", 11), ("copy({a})(", 9))

    def test_parentheses_and_braces(self):
        self.check(Unexpected, ("copy", 4), ("copy{a}", 4), ("copy {a}", 5), ("copy((", 5), ("copy({a}", 8), ("copy({a}  ", 10),
                   ("copy[{a}]", 4), ("copy(.)", 5), ("copy({a)}", 7), ("copy({a}}", 8), ("copy({{a}})", 6), ("copy({a{b}})", 7))

    def test_mistakes_within_braces(self):
        self.check(Unexpected, ("copy({a|*})", 8), ("copy({[a]})", 7), ("copy({a)b})", 7), ("copy({*a})", 6), ("copy({a]})", 7),
                   ("each(copy({a||b}))", 13), ('copy({a"b})', 7), ("copy({a,b})", 7), ("copy({(a,b)})", 8), ('copy({"a"})', 6))

    def test_braces_that_are_closed_too_early(self):
        self.check(Unexpected, ("copy({a|})", 8), ("copy({(a})", 8), ("copy({!})", 7), ("copy({[})", 7), ("copy({(})", 7),
                   ("copy({a(b|})", 10), ("copy({(()})", 9), ('word("", {a|}', 12), ("pick({!!}, ", 8), ("copy({a}|b})", 8))

    def test_only_the_first_mistake_counts(self):
        self.check(Unexpected, ("wort(copi(", 3), ("copy({a|*}}}", 8), ("both(copy({a}) copy({*}))", 15), ("copy({a}))))", 9))

    def test_changed_texts(self):
        chance = random.Random(55)
        sets = [A, ("star", A), ("or", A, B), ("nothing",), ("never",), ("not", ("any",))]
        right = 0
        for _ in range(600):
            text = print_term(any_term(chance, 3, sets))
            if len(text) > 60:
                continue
            place = chance.randrange(len(text) + 1)
            sign = chance.choice(text + ' "(),{}.[]|*+?!abcwordeach')
            text = text[:place] + chance.choice((sign, sign + text[place:place + 1], "")) + text[place + 1:]
            if Attempt(text).begins:
                right += 1
                parse_term(text)
            else:
                self.check(Unexpected, (text, wrong_place(text)))
        self.assertGreater(right, 20)
