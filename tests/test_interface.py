"""The interface: every name stands in the file under which the document lists it, with its arguments."""

import importlib
import inspect
import unittest

FUNCTIONS = {
    "halfbits.words": {
        "is_word": ["thing"],
        "settlings": ["word"],
        "is_within": ["word", "other"],
        "joined": ["words"],
        "met": ["word", "other"],
    },
    "halfbits.nets": {
        "is_net": ["thing"],
        "run": ["net", "word"],
    },
    "halfbits.tables": {
        "is_table": ["thing"],
        "is_telling": ["thing"],
        "table_of": ["net"],
        "telling_of": ["net"],
        "first_parting": ["net", "other"],
        "first_duller": ["net", "other"],
    },
    "halfbits.sharp": {
        "surely": ["table", "word"],
        "dull_word": ["net"],
        "primes": ["table", "out", "bit"],
        "sum_net": ["n", "sums"],
        "is_sharp_sum": ["table", "out", "words"],
        "sharp_net": ["table"],
    },
    "halfbits.tellings": {
        "why_not": ["telling"],
        "net_of": ["telling"],
    },
    "halfbits.demands": {
        "is_demand": ["thing"],
        "first_missed": ["demand", "net"],
        "picks_of": ["demand"],
        "picked_net": ["demand", "picks"],
    },
    "halfbits.stores": {
        "reads": ["kind", "bit", "r"],
        "rows_of": ["kinds", "r", "word"],
        "first_failing": ["demand", "plan"],
    },
    "halfbits.rounds": {
        "shows_outlines": ["demand", "r", "thing"],
        "outlines_of": ["demand", "r"],
        "least_rounds": ["demand"],
        "plan_of": ["demand", "r"],
    },
    "halfbits.refusals": {
        "refusal_of": ["demand", "r"],
        "shows_refusal": ["demand", "r", "thing"],
    },
    "halfbits.codes": {
        "losses": ["code", "is_ring"],
        "read_as": ["code", "word"],
        "reflected": ["bits"],
        "conversion": ["code", "other"],
    },
}


class InterfaceTest(unittest.TestCase):
    def test_functions_are_defined_where_they_are_listed(self):
        for module_name, functions in FUNCTIONS.items():
            module = importlib.import_module(module_name)
            for name in functions:
                with self.subTest(module=module_name, name=name):
                    self.assertTrue(inspect.isfunction(getattr(module, name)))
                    self.assertEqual(getattr(module, name).__module__, module_name)

    def test_arguments_stand_in_their_order_under_their_names(self):
        for module_name, functions in FUNCTIONS.items():
            module = importlib.import_module(module_name)
            for name, arguments in functions.items():
                with self.subTest(module=module_name, name=name):
                    parameters = inspect.signature(getattr(module, name)).parameters
                    self.assertEqual(list(parameters), arguments)
                    for parameter in parameters.values():
                        self.assertIs(parameter.kind, inspect.Parameter.POSITIONAL_OR_KEYWORD)


if __name__ == "__main__":
    unittest.main()
