"""The names, arguments and places of all that the interface lists."""
import importlib
import inspect
import unittest

INTERFACE = {
    "webs": {"Web": ["many", "ties", "spring", "mouth"], "neighbours": ["web", "house"],
             "lets": ["web", "one", "other"]},
    "streams": {"is_stream": ["web", "thing"], "is_paper": ["web", "stream", "thing"],
                "is_split": ["web", "stream", "thing"], "worth": ["web", "stream"],
                "room": ["web", "stream", "one", "other"], "most": ["web"], "side_worth": ["web", "side"],
                "side_of": ["web", "stream"], "split": ["web", "stream"]},
    "states": {"begun": ["web", "house"], "is_word": ["thing"], "is_state": ["web", "house", "thing"],
               "started": ["web", "house", "state"], "heard": ["web", "house", "state", "sender", "word"]},
    "glass": {"first_glass": ["web"], "first_glass_of": ["web", "stream"], "moved": ["web", "glass", "move"],
              "is_glass": ["web", "thing"], "moves": ["web", "glass"], "broken": ["web", "glass"]},
    "ends": {"run_out": ["web", "choices"], "run_from": ["web", "stream", "choices"], "stream_of": ["web", "glass"],
             "bounds": ["web"]},
    "records": {"Record": ["web", "events"], "first_wrong": ["record"], "glass_then": ["record", "at"],
                "causes": ["record"], "vectors": ["record"], "seen": ["record", "house"], "longest_chain": ["record"],
                "carried": ["record", "one", "other"], "is_alike": ["record", "thing"], "by_least": ["record"],
                "recorded": ["web", "choices"]},
    "links": {"Outgoing": [], "outgoing_of": ["state"], "Incoming": [], "incoming_of": ["state"]},
    "rows": {"row_of": ["parcel"], "sealed": ["parcel"], "parcel_of": ["row"], "is_parcel": ["thing"], "mark": ["row"],
             "unsealed": ["row"]},
    "disks": {"Disk": [], "kept_parcels": ["blocks"]},
    "posts": {"Post": ["web", "number"], "post_of": ["web", "number", "past"]},
    "savings": {"SavedHouse": ["web", "number", "disk"]},
    "nets": {"Net": ["web"], "led_by": ["net", "deeds"], "round_trip": ["net"], "settle": ["net", "most"]},
    "films": {"Reel": ["web", "moves", "every"], "drawn": ["web", "glass"], "drawn_heights": ["web", "glass"],
              "drawn_stream": ["web", "stream"]},
    "desks": {"Desk": []},
    "texts": {"web_text": ["web"], "stream_text": ["stream"], "split_text": ["split"], "moves_text": ["moves"],
              "record_text": ["record"], "read_web": ["text"], "read_stream": ["text"], "read_split": ["text"],
              "read_moves": ["text"], "read_record": ["text"]},
}
POST = {"state": [], "past": [], "letter": ["to"], "deed": ["thing"], "copy": []}
METHODS = {
    ("webs", "Web"): {}, ("records", "Record"): {},
    ("links", "Outgoing"): {"put": ["thing"], "known": ["number"], "waiting": [], "many_put": [], "state": [],
                            "copy": []},
    ("links", "Incoming"): {"take": ["number", "thing"], "taken": [], "held": [], "state": [], "copy": []},
    ("disks", "Disk"): {"write": ["row"], "sync": [], "synced": [], "blocks": [], "cut": ["kept"], "drop": ["number"],
                        "copy": []},
    ("posts", "Post"): POST, ("savings", "SavedHouse"): {**POST, "keep": [], "moved": ["disk"]},
    ("nets", "Net"): {"house": ["number"], "disk": ["number"], "bag": [], "glass": [], "deed": ["thing"]},
    ("films", "Reel"): {"stands": [], "worked": [], "glass_there": [], "seek": ["at"], "kept": [], "copy": []},
    ("desks", "Desk"): {"tell": ["line"]},
}


class Interface(unittest.TestCase):
    def test_names_and_arguments(self):
        for file, names in INTERFACE.items():
            module = importlib.import_module("moststream." + file)
            for name, arguments in names.items():
                with self.subTest(file, name=name):
                    thing = getattr(module, name)
                    self.assertEqual(list(inspect.signature(thing).parameters), arguments)
                    self.assertEqual(thing.__module__, module.__name__)
                    self.assertEqual(inspect.isclass(thing), name[0].isupper())

    def test_methods_stand_in_their_class(self):
        for (file, name), methods in METHODS.items():
            own = vars(getattr(importlib.import_module("moststream." + file), name))
            self.assertIn("__init__", own)
            for method, arguments in methods.items():
                with self.subTest(name, method=method):
                    self.assertEqual(list(inspect.signature(own[method]).parameters), ["self", *arguments])

    def test_those_with_equality_have_their_own(self):
        for file, name in (("webs", "Web"), ("records", "Record")):
            self.assertIn("__eq__", vars(getattr(importlib.import_module("moststream." + file), name)))


if __name__ == "__main__":
    unittest.main()
