"""The beginning of the interface: every name is defined in its module and takes the arguments that are told."""

import importlib
import inspect
import unittest

FUNCTIONS = {
    "matching": {
        "is_name": 1, "is_value": 1, "labels_of": 1, "value_of": 2, "with_label": 3, "without": 2, "only": 2,
        "matches": 2, "matches_all": 2,
    },
    "samples": {
        "is_plain": 1, "view_of": 1, "add_sample": 2, "sample_at": 3, "newest": 1, "select": 4, "series_of": 1, "spread": 1,
    },
    "expressions": {"kind_of": 1, "count_of": 1, "metrics": 1},
    "setup": {"channels_of": 2, "schedule_of": 2, "policy_of": 2, "window_of": 2, "group_of_rules": 2},
    "tokens": {"tokens": 1},
    "parsing": {"parse": 1},
    "printing": {"show": 1},
    "following": {"expected": 1},
    "steps": {"steps_of": 1, "from_steps": 1},
    "windows": {"is_read": 5, "windows": 5, "over": 2},
    "vectors": {"binary": 3, "aggregate": 3},
    "values": {"value_at": 4, "values_between": 6},
    "reading": {"reach": 2, "affected": 3, "samples_read": 4, "samples_for": 5},
    "numbers": {
        "put_number": 1, "put_integer": 1, "put_text": 1, "put_labels": 1,
        "take_number": 2, "take_integer": 2, "take_text": 2, "take_labels": 2,
    },
    "blocks": {"put_block": 1, "take_block": 1, "block_of": 3, "samples_of": 1},
    "logs": {"put_batch": 1, "put_log": 1, "take_log": 1},
    "opening": {"stages": 2, "crashed": 1},
    "timing": {"is_due": 3, "next_due": 3, "due_times": 4, "least_delay": 2, "greatest_delay": 3},
    "alerting": {"step": 5, "times_of": 3, "alert_labels": 3, "record_labels": 3},
    "evaluating": {"test_rules": 4},
    "routes": {"way": 2, "end_of": 2, "refusals": 2, "group_of": 2, "holds_back": 3},
    "surveys": {"sample_alerts": 1, "survey": 2, "difference": 3},
    "calendars": {
        "in_spans": 3, "on_layer": 3, "on_call": 3, "next_break": 3, "settled": 1, "period": 2, "stretches": 4, "duties": 4,
    },
    "alltimes": {"first_gap": 3, "ever_on_call": 3, "cycle": 2, "first_difference": 4},
    "escalation": {
        "is_muted": 3, "unmuted_from": 3, "longest_mute": 3, "is_sure": 2, "plan": 3, "delay": 3, "policy_gap": 3,
        "worst_delay": 3,
    },
    "paging": {"runs_of": 3, "is_silenced": 3, "is_held": 4, "due": 3, "worker_for": 4},
    "forcing": {"slack": 1, "is_forced": 5, "can_fail": 4, "can_precede": 4, "can_begin": 5, "can_follow": 4},
    "gaps": {"failing": 4, "gap": 4, "gap_between": 5, "least_limit": 5},
    "scripts": {"rehearsal": 4},
    "sure": {"sure_limit": 3},
    "journal": {"line_of": 1, "journal": 1, "replay": 2},
    "lines": {"words_of": 1, "check_words": 1},
    "configuration": {"problems_of": 1, "read_setup": 1, "write_setup": 1},
}
CLASSES = {
    ("stores", "Store"): (4, {
        "append": 1, "sync": 0, "seal": 0, "compact": 0, "retain": 1, "view": 0, "blocks": 0, "batches": 0, "disk": 0,
        "twin": 0,
    }),
    ("evaluating", "Evaluator"): (1, {"evaluate": 3, "firing": 0, "alerts": 2, "twin": 0}),
    ("pager", "Pager"): (1, {
        "tick": 3, "silence": 3, "stand_in": 4, "acknowledge": 2, "time": 0, "runs": 0, "reached": 0, "held": 0, "ledger": 0,
        "plans": 0, "on_call": 1,
    }),
    ("floor", "Floor"): (1, {
        "take": 1, "tick": 3, "sync": 0, "seal": 0, "compact": 0, "retain": 1, "crash": 0, "silence": 3, "stand_in": 4,
        "acknowledge": 2, "time": 0, "view": 0, "firing": 0, "pager": 0, "deeds": 0,
    }),
}
PARTS = {
    "week": inspect.Parameter.empty, "people": inspect.Parameter.empty, "schedules": inspect.Parameter.empty,
    "policies": inspect.Parameter.empty, "windows": (), "routes": inspect.Parameter.empty, "holdbacks": (),
    "groups": (), "replicas": 1, "pause": 0, "down": 0, "store": (0, 10, 2, 0), "lookback": 5,
}


class InterfaceTest(unittest.TestCase):

    def test_functions_take_their_arguments_by_position(self):
        for module, functions in FUNCTIONS.items():
            found = importlib.import_module("watchfloor." + module)
            for name, many in functions.items():
                function = getattr(found, name)
                self.assertTrue(inspect.isfunction(function), name)
                self.assertEqual(function.__module__, found.__name__, name)
                self.takes(function, many)

    def takes(self, function, many):
        """Check that a function takes so many arguments by position, no more and no less."""
        signature = inspect.signature(function)
        signature.bind(*range(many))
        self.assertRaises(TypeError, signature.bind, *range(many + 1))
        if many > 0:
            self.assertRaises(TypeError, signature.bind, *range(many - 1))

    def test_classes_define_their_methods_themselves(self):
        for (module, name), (many, methods) in CLASSES.items():
            found = getattr(importlib.import_module("watchfloor." + module), name)
            self.assertTrue(inspect.isclass(found), name)
            self.assertEqual(found.__module__, "watchfloor." + module, name)
            self.takes(found, many)
            for method in methods:
                self.assertTrue(inspect.isfunction(vars(found).get(method)), (name, method))
                self.takes(vars(found)[method], 1 + methods[method])

    def test_store_has_properties(self):
        found = importlib.import_module("watchfloor.stores").Store
        for name in ("floor", "closed", "synced"):
            self.assertIsInstance(vars(found).get(name), property)

    def test_open_store_takes_its_disk_by_keyword(self):
        function = importlib.import_module("watchfloor.opening").open_store
        self.assertTrue(inspect.isfunction(function))
        self.assertEqual(function.__module__, "watchfloor.opening")
        parameters = inspect.signature(function).parameters
        self.assertEqual(len(parameters), 7)
        self.assertEqual(list(parameters)[4:], ["floor", "blocks", "log"])
        for name in list(parameters)[4:]:
            self.assertEqual(parameters[name].kind, inspect.Parameter.KEYWORD_ONLY)
        self.assertRaises(TypeError, inspect.signature(function).bind, 0, 10, 2, 0)
        inspect.signature(function).bind(0, 10, 2, 0, floor=0, blocks=[], log=[])

    def test_setup_takes_its_arguments_by_keyword(self):
        found = importlib.import_module("watchfloor.setup")
        self.assertTrue(inspect.isclass(found.Setup))
        self.assertEqual(found.Setup.__module__, "watchfloor.setup")
        parameters = inspect.signature(found.setup).parameters
        self.assertEqual({name: parameters[name].default for name in parameters}, PARTS)
        for name in parameters:
            self.assertEqual(parameters[name].kind, inspect.Parameter.KEYWORD_ONLY)


if __name__ == "__main__":
    unittest.main()
