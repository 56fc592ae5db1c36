"""The interface: each name stands in its file and takes the arguments that the document lists."""

import importlib
import inspect
import unittest

FUNCTIONS = {
    "ratios": {
        "ratio": "n d", "plus": "a b", "minus": "a b", "times": "a b", "over": "a b", "is_less": "a b", "sign": "a",
        "middle": "a b",
    },
    "points": {"point": "corner", "turn": "p q r", "on_segment": "p a b", "is_name": "thing", "is_corner": "thing"},
    "shapes": {
        "is_piece": "thing", "hull": "corners", "sum_of": "first second", "turned_over": "piece",
        "shifted": "piece corner", "is_in": "p piece", "is_inside": "p piece",
    },
    "meeting": {
        "are_apart": "a b piece", "line_between": "a b piece", "common_point": "a b piece",
        "is_line_between": "line a b piece", "enters": "a b piece",
    },
    "rooms": {"is_shape": "thing least most"},
    "regions": {"regions": "room body", "is_free": "room body place"},
    "ways": {
        "find_way": "room body start goal", "takes_way": "room body start goal way", "lines_of": "room body way",
        "takes_lines": "room body way lines",
    },
    "barriers": {
        "find_barrier": "room body start goal", "goes_round": "ring p",
        "takes_barrier": "room body start goal ring",
    },
    "sliding": {
        "is_loose": "room body place", "length": "way", "in_sight": "room body start goal",
        "slide": "room body start goal", "takes_slide": "room body start goal answer",
    },
    "movers": {
        "check_task": "room task", "is_safe": "room task tick first second", "find_plan": "room task",
        "takes_plan": "room task plan", "takes_layers": "room task layers",
    },
    "notation": {"write": "thing", "read": "text", "room_text": "room", "read_room": "text"},
    "margins": {
        "distance": "a b piece", "distance_paper": "a b piece", "takes_distance": "paper a b piece d",
        "margin": "room body way",
    },
    "groups": {
        "tour": "room body places", "groups": "room body places", "groups_paper": "room body places",
        "takes_groups": "room body places found paper",
    },
    "pictures": {"picture": "room body step"},
}
METHODS = {
    ("rooms", "Room"): {
        "__init__": "self width height", "build": "self name shape", "hang": "self name shape",
        "add_body": "self name shape", "drop": "self name", "drop_body": "self name", "open_door": "self name",
        "shut_door": "self name", "size": "self", "walls": "self", "bodies": "self", "doors": "self", "copy": "self",
    },
    ("keeper", "Keeper"): {
        "__init__": "self width height", "build": "self name shape", "hang": "self name shape",
        "add_body": "self name shape", "drop": "self name", "drop_body": "self name", "open_door": "self name",
        "shut_door": "self name", "ask": "self name body start goal", "forget": "self name", "undo": "self",
        "room": "self", "requests": "self", "answer": "self name", "changed": "self",
    },
    ("desk", "Desk"): {"__init__": "self width height", "answer": "self line", "lines": "self"},
}


def parameters(function):
    return " ".join(inspect.signature(function).parameters)


class Interface(unittest.TestCase):

    def test_functions(self):
        for file, names in FUNCTIONS.items():
            module = importlib.import_module(f"roomyway.{file}")
            for name, expected in names.items():
                with self.subTest(file=file, name=name):
                    function = getattr(module, name)
                    self.assertTrue(inspect.isfunction(function))
                    self.assertEqual(function.__module__, module.__name__)
                    self.assertEqual(parameters(function), expected)

    def test_methods(self):
        for (file, kind), names in METHODS.items():
            module = importlib.import_module(f"roomyway.{file}")
            found = getattr(module, kind)
            self.assertEqual(found.__module__, module.__name__)
            for name, expected in names.items():
                with self.subTest(kind=kind, name=name):
                    self.assertIn(name, vars(found))
                    self.assertEqual(parameters(vars(found)[name]), expected)


if __name__ == "__main__":
    unittest.main()
