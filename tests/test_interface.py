"""The interface: names, the files that define them, their arguments in order."""

import importlib
import inspect
import unittest

FUNCTIONS = {
    "works": {
        "is_task": "works thing", "is_standing": "works thing", "is_quiet": "works standing",
        "sent_by": "works house task", "tasks_of": "works house task", "many_tasks": "works task",
        "longest_way": "works task", "still_to_do": "works standing", "first_standing": "works given",
        "done_by": "works standing house", "heard_by": "works standing house sender", "plain_run": "works given",
    },
    "links": {"outgoing_of": "state", "incoming_of": "state"},
    "shares": {"sum_of": "one other", "half": "share"},
    "states": {
        "begun": "works house", "is_word": "works thing", "is_state": "works house thing", "gifted": "works state task",
        "done": "works house state", "heard": "works house state sender word", "passed": "works house state",
        "says": "works state",
    },
    "rows": {
        "row_of": "parcel", "parcel_of": "row", "is_parcel": "thing", "mark": "row", "sealed": "parcel", "unsealed": "row",
    },
    "posts": {"post_of": "works number past"},
    "glass": {
        "first_glass": "works", "moved": "works glass move", "given_glass": "works glass task", "is_glass": "works thing",
        "quiet_glass": "works glass", "broken": "works glass", "lies_told": "works glass", "moves": "works glass",
        "run_out": "works glass", "pictured": "works parts",
    },
    "watchers": {"answers_left": "works glass", "signs_left": "works glass", "shares_left": "works glass"},
    "yards": {"ring_of": "yard who", "on_rings": "yard"},
    "records": {
        "first_wrong": "record", "standing_at": "record at", "quiet_from": "record", "lies_in": "record",
    },
    "causes": {
        "causes": "record", "vectors": "record", "is_ahead": "record one other", "is_cut": "record thing",
        "is_order": "record thing", "standing_of_cut": "record cut", "least_quiet": "record", "many_cuts": "record",
        "rearranged": "record order",
    },
    "disks": {"kept_parcels": "blocks"},
    "nets": {"led_by": "net deeds", "round_trip": "net", "settle": "net most"},
    "texts": {"works_text": "works", "record_text": "record", "read_works": "text", "read_record": "text"},
    "films": {"drawn": "works standing", "drawn_record": "record", "drawn_causes": "record at"},
}
CLASSES = {
    "works": {"Works": {"__init__": "self many rules", "__eq__": "self other"}},
    "links": {
        "Outgoing": {
            "__init__": "self", "put": "self thing", "known": "self number", "waiting": "self", "many_put": "self",
            "state": "self", "copy": "self",
        },
        "Incoming": {
            "__init__": "self", "take": "self number thing", "taken": "self", "held": "self", "state": "self",
            "copy": "self",
        },
    },
    "posts": {
        "Post": {
            "__init__": "self works number", "state": "self", "past": "self", "deed": "self thing", "letter": "self to",
            "part_of": "self number", "copy": "self",
        },
    },
    "yards": {
        "Yard": {
            "__init__": "self many", "ask": "self who lot", "grant": "self who other", "bring": "self who other",
            "probe": "self who", "waits": "self who", "asked_by": "self who", "letters": "self who other",
            "known_stuck": "self", "copy": "self",
        },
    },
    "records": {"Record": {"__init__": "self works given events", "__eq__": "self other"}},
    "disks": {
        "Disk": {
            "__init__": "self", "write": "self row", "sync": "self", "synced": "self", "blocks": "self", "cut": "self kept",
            "drop": "self number", "copy": "self",
        },
    },
    "savings": {
        "SavedHouse": {
            "__init__": "self works number disk", "state": "self", "past": "self", "deed": "self thing",
            "letter": "self to", "part_of": "self number", "copy": "self", "keep": "self", "moved": "self disk",
        },
    },
    "nets": {
        "Net": {
            "__init__": "self works", "house": "self number", "disk": "self number", "bag": "self", "glass": "self",
            "deed": "self thing",
        },
    },
    "films": {
        "Reel": {
            "__init__": "self record every", "stands": "self", "standing": "self", "seek": "self at", "kept": "self",
            "worked": "self", "copy": "self", "many_events": "self",
        },
    },
    "desks": {"Desk": {"__init__": "self", "tell": "self line"}},
}


def arguments(function):
    return " ".join(inspect.signature(function).parameters)


class InterfaceTest(unittest.TestCase):
    def test_functions(self):
        for file, names in FUNCTIONS.items():
            module = importlib.import_module("knownquiet." + file)
            for name, told in names.items():
                function = getattr(module, name)
                self.assertEqual(function.__module__, "knownquiet." + file)
                self.assertEqual(arguments(function), told, name)

    def test_classes(self):
        for file, names in CLASSES.items():
            module = importlib.import_module("knownquiet." + file)
            for name, methods in names.items():
                found = getattr(module, name)
                self.assertEqual(found.__module__, "knownquiet." + file)
                for method, told in methods.items():
                    self.assertIn(method, vars(found))
                    self.assertEqual(arguments(vars(found)[method]), told, (name, method))


if __name__ == "__main__":
    unittest.main()
