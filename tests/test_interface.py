"""The interface: every name stands in the file under which the document lists it, with its arguments."""

import importlib
import inspect
import unittest

FUNCTIONS = {
    "halfbits.words": {
        "is_word": ["thing"],
        "settlings": ["word"],
        "is_within": ["word", "other"],
        "joined": ["words"],
        "met": ["word", "other"],
    },
    "halfbits.nets": {
        "is_net": ["thing"],
        "run": ["net", "word"],
    },
    "halfbits.tables": {
        "is_table": ["thing"],
        "is_telling": ["thing"],
        "table_of": ["net"],
        "telling_of": ["net"],
        "first_parting": ["net", "other"],
        "first_duller": ["net", "other"],
    },
    "halfbits.sharp": {
        "surely": ["table", "word"],
        "dull_word": ["net"],
        "primes": ["table", "out", "bit"],
        "sum_net": ["n", "sums"],
        "is_sharp_sum": ["table", "out", "words"],
        "sharp_net": ["table"],
    },
    "halfbits.tellings": {
        "why_not": ["telling"],
        "net_of": ["telling"],
    },
    "halfbits.demands": {
        "is_demand": ["thing"],
        "first_missed": ["demand", "net"],
        "picks_of": ["demand"],
        "picked_net": ["demand", "picks"],
    },
    "halfbits.stores": {
        "reads": ["kind", "bit", "r"],
        "rows_of": ["kinds", "r", "word"],
        "first_failing": ["demand", "plan"],
    },
    "halfbits.rounds": {
        "shows_outlines": ["demand", "r", "thing"],
        "outlines_of": ["demand", "r"],
        "least_rounds": ["demand"],
        "plan_of": ["demand", "r"],
    },
    "halfbits.refusals": {
        "refusal_of": ["demand", "r"],
        "shows_refusal": ["demand", "r", "thing"],
    },
    "halfbits.codes": {
        "losses": ["code", "is_ring"],
        "read_as": ["code", "word"],
        "reflected": ["bits"],
        "conversion": ["code", "other"],
    },
    "halfbits.sorting": {
        "place_of": ["word"],
        "word_at": ["bits", "place"],
        "order_net": ["bits"],
        "sorted_by": ["row", "words"],
        "first_unsorted": ["k", "row"],
    },
    "halfbits.boards": {
        "trial": ["board", "things"],
    },
    "halfbits.machines": {
        "is_machine": ["thing"],
        "outcomes": ["machine", "word", "r"],
        "first_wrong": ["demand", "machine", "r"],
        "first_unlike": ["machine", "other", "r"],
        "unrolled": ["machine", "r"],
    },
}
METHODS = {
    ("halfbits.boards", "Board"): {
        "__init__": ["n"],
        "add": ["gate"],
        "turn": ["number", "gate"],
        "show": ["outs"],
        "drop": [],
        "undo": [],
        "net": [],
        "run": ["word"],
        "dull_word": [],
        "__len__": [],
        "__enter__": [],
    },
    ("halfbits.benches", "Bench"): {
        "__init__": ["n", "m"],
        "tell": ["word", "lets"],
        "withdraw": ["word"],
        "undo": [],
        "demand": [],
        "ask": ["r"],
        "least": [],
        "__len__": [],
    },
}


class InterfaceTest(unittest.TestCase):
    def test_functions_are_defined_where_they_are_listed(self):
        for module_name, functions in FUNCTIONS.items():
            module = importlib.import_module(module_name)
            for name in functions:
                with self.subTest(module=module_name, name=name):
                    self.assertTrue(inspect.isfunction(getattr(module, name)))
                    self.assertEqual(getattr(module, name).__module__, module_name)

    def test_arguments_stand_in_their_order_under_their_names(self):
        for module_name, functions in FUNCTIONS.items():
            module = importlib.import_module(module_name)
            for name, arguments in functions.items():
                with self.subTest(module=module_name, name=name):
                    parameters = inspect.signature(getattr(module, name)).parameters
                    self.assertEqual(list(parameters), arguments)
                    for parameter in parameters.values():
                        self.assertIs(parameter.kind, inspect.Parameter.POSITIONAL_OR_KEYWORD)

    def test_classes_and_their_methods_are_defined_where_they_are_listed(self):
        for (module_name, class_name), methods in METHODS.items():
            listed = getattr(importlib.import_module(module_name), class_name)
            self.assertTrue(inspect.isclass(listed))
            self.assertEqual(listed.__module__, module_name)
            for name, arguments in methods.items():
                with self.subTest(module=module_name, name=name):
                    parameters = inspect.signature(vars(listed)[name]).parameters
                    self.assertEqual(list(parameters), ["self", *arguments])
                    for parameter in parameters.values():
                        self.assertIs(parameter.kind, inspect.Parameter.POSITIONAL_OR_KEYWORD)
                        self.assertIs(parameter.default, inspect.Parameter.empty)


if __name__ == "__main__":
    unittest.main()
