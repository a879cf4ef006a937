import inspect
import unittest

from threescribes import (after, alike, boxes, build, crossings, errors, heads, into, judge, meaning, pens, plainhead, run,
                          sets, settexts, smaller, spaces, terms, walks)

FUNCTIONS = {
    sets: {"is_set": ["thing"], "least": ["machine"], "contains": ["machine", "text"], "join": ["one", "other"],
           "meet": ["one", "other"], "less": ["one", "other"], "row": ["one", "other"], "star": ["machine"],
           "turned": ["machine"], "all_texts": ["letters"], "no_texts": ["letters"], "shortest": ["machine"]},
    settexts: {"parse_set": ["text"], "print_set": ["tree"], "set_of": ["tree", "letters"]},
    boxes: {"is_boxes": ["thing"], "run_boxes": ["boxes", "text"], "domain_of": ["boxes"]},
    smaller: {"smaller": ["boxes"]},
    heads: {"is_head": ["thing"], "is_plain": ["head"], "run_head": ["head", "text"]},
    terms: {"parse_term": ["text"], "print_term": ["tree"]},
    meaning: {"value_of": ["tree", "letters", "text"]},
    build: {"boxes_of": ["tree", "letters"]},
    walks: {"head_of": ["boxes"]},
    crossings: {"boxes_of_head": ["head"]},
    plainhead: {"plain_head": ["head"]},
    after: {"after": ["first", "second"]},
    spaces: {"number_of": ["value"], "weight_of": ["value"], "vector_of": ["values"], "step_vector": ["vector", "news"],
             "end_number": ["vector", "row"], "class_pairs": ["one", "other"], "node_steps": ["one", "other", "node"],
             "written": ["vectors", "vector"]},
    alike: {"alike": ["one", "other"]},
    judge: {"takes": ["one", "other", "paper"]},
    into: {"led_into": ["boxes", "machine"], "first_outside": ["boxes", "machine"]},
    run: {"tell": ["letters", "one", "other"]},
    pens: {"is_pen": ["boxes"], "is_plain_pen": ["boxes"], "forks": ["pen", "fork"], "without_look": ["pen"]},
}


class TheInterface(unittest.TestCase):
    def test_functions_with_their_arguments_in_their_files(self):
        for module, functions in FUNCTIONS.items():
            for name, arguments in functions.items():
                function = getattr(module, name)
                self.assertTrue(inspect.isfunction(function), name)
                self.assertEqual(function.__module__, module.__name__)
                self.assertEqual(list(inspect.signature(function).parameters), arguments, name)

    def test_error_classes_in_their_file(self):
        for name in ("ScribeError", "BadSign", "Unexpected"):
            self.assertEqual(getattr(errors, name).__module__, "threescribes.errors")
        for name in ("BadSign", "Unexpected"):
            self.assertIn("__init__", vars(getattr(errors, name)))
