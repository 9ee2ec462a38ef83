"""The beginning of the interface: every name is defined in its module and takes the arguments that are told."""

import importlib
import inspect
import unittest

FUNCTIONS = {
    "matching": {
        "is_name": 1, "is_value": 1, "labels_of": 1, "value_of": 2, "with_label": 3, "without": 2, "only": 2,
        "matches": 2, "matches_all": 2,
    },
    "samples": {
        "is_plain": 1, "view_of": 1, "add_sample": 2, "sample_at": 3, "newest": 1, "select": 4, "series_of": 1, "spread": 1,
    },
    "expressions": {"kind_of": 1, "count_of": 1, "metrics": 1},
    "setup": {"channels_of": 2, "schedule_of": 2, "policy_of": 2, "window_of": 2, "group_of_rules": 2},
    "tokens": {"tokens": 1},
    "parsing": {"parse": 1},
    "printing": {"show": 1},
    "following": {"expected": 1},
    "steps": {"steps_of": 1, "from_steps": 1},
    "windows": {"is_read": 5, "windows": 5, "over": 2},
    "vectors": {"binary": 3, "aggregate": 3},
}
PARTS = {
    "week": inspect.Parameter.empty, "people": inspect.Parameter.empty, "schedules": inspect.Parameter.empty,
    "policies": inspect.Parameter.empty, "windows": (), "routes": inspect.Parameter.empty, "holdbacks": (),
    "groups": (), "replicas": 1, "pause": 0, "down": 0, "store": (0, 10, 2, 0), "lookback": 5,
}


class InterfaceTest(unittest.TestCase):

    def test_functions_take_their_arguments_by_position(self):
        for module, functions in FUNCTIONS.items():
            found = importlib.import_module("watchfloor." + module)
            for name, many in functions.items():
                function = getattr(found, name)
                self.assertTrue(inspect.isfunction(function), name)
                self.assertEqual(function.__module__, found.__name__, name)
                inspect.signature(function).bind(*range(many))
                with self.assertRaises(TypeError):
                    inspect.signature(function).bind(*range(many - 1))
                with self.assertRaises(TypeError):
                    inspect.signature(function).bind(*range(many + 1))

    def test_setup_takes_its_arguments_by_keyword(self):
        found = importlib.import_module("watchfloor.setup")
        self.assertTrue(inspect.isclass(found.Setup))
        self.assertEqual(found.Setup.__module__, "watchfloor.setup")
        parameters = inspect.signature(found.setup).parameters
        self.assertEqual({name: parameters[name].default for name in parameters}, PARTS)
        for name in parameters:
            self.assertEqual(parameters[name].kind, inspect.Parameter.KEYWORD_ONLY)


if __name__ == "__main__":
    unittest.main()
