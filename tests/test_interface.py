"""The names, arguments and places of all that the interface lists so far."""
import importlib
import inspect
import unittest

INTERFACE = {
    "webs": {"Web": ["many", "ties", "spring", "mouth"], "neighbours": ["web", "house"],
             "lets": ["web", "one", "other"]},
    "streams": {"is_stream": ["web", "thing"], "is_paper": ["web", "stream", "thing"],
                "is_split": ["web", "stream", "thing"], "worth": ["web", "stream"],
                "room": ["web", "stream", "one", "other"], "most": ["web"], "side_worth": ["web", "side"],
                "side_of": ["web", "stream"], "split": ["web", "stream"]},
    "states": {"begun": ["web", "house"], "is_word": ["thing"], "is_state": ["web", "house", "thing"],
               "started": ["web", "house", "state"], "heard": ["web", "house", "state", "sender", "word"]},
}


class Interface(unittest.TestCase):
    def test_names_and_arguments(self):
        for file, names in INTERFACE.items():
            module = importlib.import_module("moststream." + file)
            for name, arguments in names.items():
                with self.subTest(file, name=name):
                    thing = getattr(module, name)
                    self.assertEqual(list(inspect.signature(thing).parameters), arguments)
                    self.assertEqual(thing.__module__, module.__name__)
                    self.assertEqual(inspect.isclass(thing), name[0].isupper())

    def test_methods_stand_in_their_class(self):
        web = importlib.import_module("moststream.webs").Web
        self.assertIn("__eq__", vars(web))
        self.assertIn("__init__", vars(web))


if __name__ == "__main__":
    unittest.main()
