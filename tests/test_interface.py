"""The interface: the names, the arguments, and the files in which they are defined."""

import importlib
import inspect
import unittest

FUNCTIONS = {
    "hushweb.webs": {"tied": "web one other", "ties_of": "web person", "pieces": "web band"},
    "hushweb.talks": {"are_coins": "web thing", "are_numbers": "web thing", "say": "web coins messages",
                      "heard": "web sayings"},
    "hushweb.views": {"view": "web band coins messages", "is_view": "web thing", "joined": "web one other"},
    "hushweb.known": {"sums": "web view", "may": "web view messages", "deals": "web view messages",
                      "bearing": "web view messages", "bears": "web view messages thing", "rows": "web view"},
    "hushweb.lone": {"lone": "web view", "parts": "web band one other"},
    "hushweb.roads": {"roads": "web one other", "least_band": "web one other", "are_roads": "web one other thing"},
    "hushweb.strength": {"strength": "web", "weakest": "web", "fewest_ties": "many size",
                         "strong_web": "people size modulus"},
    "hushweb.votes": {"yeses": "web view", "vote_rows": "web view", "sure": "web view"},
    "hushweb.again": {"changes": "web view series", "may_again": "web view series lists",
                      "rows_again": "web view series", "speakers_again": "web view series"},
    "hushweb.turns": {"is_timetable": "thing", "unheard": "timetable many", "fewest_turns": "many",
                      "timetable": "people"},
    "hushweb.openings": {"is_opening": "web thing", "torn": "web opening", "unfit": "web opening sayings",
                         "fewest_liars": "web opening sayings", "are_liars": "web opening sayings thing",
                         "in_fewest": "web opening sayings"},
    "hushweb.texts": {"format_web": "web", "format_numbers": "web numbers", "format_coins": "web coins",
                      "parse_web": "text", "parse_numbers": "web text", "parse_coins": "web text"},
    "hushweb.histories": {"served": "room", "may_all": "room band lists", "deals_all": "room band lists",
                          "deal_of": "room band lists", "against": "room band lists",
                          "bears_all": "room band lists thing", "speaks_against": "room band lists thing"},
    "hushweb.freecoins": {"free_ties": "web band", "is_free": "web band thing", "bearing_with": "web view messages chosen"},
    "hushweb.pools": {"pooled": "web one other", "opened": "web view shown"},
    "hushweb.cases": {"case_tree": "web opening sayings size", "is_case_tree": "web opening sayings size thing"},
}
CLASSES = {
    ("hushweb.webs", "Web"): ("self people ties modulus", {"__eq__": "self other"}, ["people", "ties", "modulus"]),
    ("hushweb.room", "Room"): ("self modulus", {"join": "self name", "leave": "self name", "tie": "self one other coin",
                                                "untie": "self one other", "talk": "self messages", "web": "self",
                                                "known": "self band weights", "seen": "self index band", "copy": "self",
                                                "__len__": "self"}, ["people", "coins", "talks"]),
    ("hushweb.shell", "Shell"): ("self", {"run": "self line"}, []),
}


def told(call):
    """The names of the parameters; all of them may be passed by position and by name, and none has a default."""
    parameters = inspect.signature(call).parameters.values()
    assert all(one.kind is one.POSITIONAL_OR_KEYWORD and one.default is one.empty for one in parameters)
    return " ".join(one.name for one in parameters)


class Interface(unittest.TestCase):
    def test_functions(self):
        for place, functions in FUNCTIONS.items():
            module = importlib.import_module(place)
            for name, parameters in functions.items():
                call = vars(module)[name]
                self.assertTrue(inspect.isfunction(call), name)
                self.assertEqual((call.__module__, call.__name__), (place, name))
                self.assertEqual(told(call), parameters, name)

    def test_classes(self):
        for (place, name), (parameters, methods, properties) in CLASSES.items():
            module = importlib.import_module(place)
            kind = vars(module)[name]
            self.assertEqual((kind.__module__, kind.__name__), (place, name))
            self.assertEqual(told(vars(kind)["__init__"]), parameters)
            for method, arguments in methods.items():
                self.assertTrue(inspect.isfunction(vars(kind)[method]), method)
                self.assertEqual(told(vars(kind)[method]), arguments, method)
            for one in properties:
                self.assertIsInstance(vars(kind)[one], property)

    def test_steps_are_told_by_name_alone(self):
        undo = vars(importlib.import_module("hushweb.room").Room)["undo"]
        self.assertEqual(str(inspect.signature(undo)), "(self, *, steps=1)")

    def test_parse_error(self):
        module = importlib.import_module("hushweb.errors")
        self.assertEqual(told(vars(module.ParseError)["__init__"]), "self line")


if __name__ == "__main__":
    unittest.main()
