import ast
from importlib import import_module
from inspect import signature
from pathlib import Path
from unittest import TestCase

INTERFACE = {
    "everyface.forms": {
        "is_form": ["value"], "led": ["form", "row"], "product": ["form", "row", "column"], "worth": ["form", "row"],
        "part_of": ["form", "lot"],
    },
    "everyface.shares": {
        "stand": ["form", "lot"], "least_worth": ["form"], "least_corners": ["form"], "least_faces": ["form"],
        "is_least_place": ["form", "row"],
    },
    "everyface.words": {
        "word_of": ["form"], "low_row": ["form"], "rising_rows": ["form"], "is_zero": ["form", "row"],
        "is_plus": ["form"],
    },
    "everyface.sunk": {"sunk_near": ["form", "other", "many"]},
    "everyface.cones": {
        "cone_form": ["form", "edges"], "cone_word": ["form", "edges"], "cone_low": ["form", "edges"],
        "ways_edges": ["number", "rows"],
    },
    "everyface.rooms": {
        "is_room": ["value"], "is_in": ["room", "place"], "is_empty": ["room"], "barring": ["room"],
        "corners_of_room": ["room"], "told_places": ["room"], "room_edges": ["room"],
    },
    "everyface.quadratics": {
        "is_quadratic": ["value"], "worth_at": ["quadratic", "place"], "slope_at": ["quadratic", "place"],
        "is_bounded": ["quadratic", "room"], "falling": ["quadratic", "room"], "least_of": ["quadratic", "room"],
        "greatest_of": ["quadratic", "room"],
    },
    "everyface.nearby": {
        "word_near": ["quadratic", "room", "place"], "way_down": ["quadratic", "room", "place"],
        "multipliers": ["quadratic", "room", "place"], "strict_places": ["quadratic", "room"],
    },
    "everyface.webs": {
        "is_web": ["value"], "web_form": ["web"], "lot_weight": ["web", "lot"], "place_of": ["web", "lot"],
        "is_tied": ["web", "lot"], "full_lots": ["web"], "heaviest": ["web"], "tied_within": ["web", "shares"],
        "untied_number": ["web"], "untied_form": ["web", "number"],
    },
    "everyface.mixes": {
        "is_game": ["value"], "gains": ["game", "mix"], "mean": ["game", "mix"], "best_answers": ["game", "mix"],
        "is_even": ["game", "mix"], "even_corners": ["game"], "is_unentered": ["game", "mix"],
        "is_unhurt": ["game", "mix"], "entering": ["game", "mix"], "hurting": ["game", "mix"],
        "all_unentered": ["game"], "barrier": ["game", "mix", "other"], "next_mix": ["game", "mix"],
    },
    "everyface.eithers": {
        "is_answer": ["table", "row", "other"], "corner_answers": ["table", "row"], "any_answer": ["table", "row"],
        "met_by": ["table", "row"], "barring_row": ["table", "row"], "form_of": ["table"], "either_of": ["game"],
    },
    "everyface.checker": {"accepts": ["claim", "paper"]},
    "everyface.certificates": {
        "certify_word": ["form"], "certify_least": ["form"], "certify_plus": ["form"],
        "certify_sunk": ["form", "other", "many"], "certify_cone": ["form", "edges"], "certify_room": ["room"],
        "certify_bounded": ["quadratic", "room"], "certify_least_over": ["quadratic", "room"],
        "certify_near": ["quadratic", "room", "place"], "certify_heaviest": ["web"],
        "certify_entering": ["game", "mix"], "certify_hurting": ["game", "mix"], "certify_met": ["table", "row"],
        "certify_answer": ["table", "row"],
    },
    "everyface.errors": {
        "InvalidForm": ["given"], "InvalidNumber": ["given"], "InvalidRoom": ["given"], "InvalidQuadratic": ["given"],
        "InvalidWeb": ["given"], "InvalidGame": ["given"], "InvalidRow": ["index"], "InvalidLot": ["index"],
        "InvalidShares": ["index"], "InvalidEdges": ["index"],
    },
}
FILES = Path(__file__).resolve().parent.parent / "everyface"


class Interface(TestCase):
    def test_names_and_parameters(self):
        for module, names in INTERFACE.items():
            for name, parameters in names.items():
                with self.subTest(module=module, name=name):
                    found = getattr(import_module(module), name)
                    self.assertEqual(found.__module__, module)
                    told = signature(found).parameters.values()
                    self.assertEqual([each.name for each in told], parameters)
                    self.assertTrue(all([each.kind == each.POSITIONAL_OR_KEYWORD for each in told]))
                    self.assertTrue(all([each.default is each.empty for each in told]))

    def test_each_is_defined_in_the_file_of_its_module(self):
        for module, names in INTERFACE.items():
            tree = ast.parse((FILES / (module.split(".")[1] + ".py")).read_text())
            defined = {node.name for node in tree.body if isinstance(node, (ast.FunctionDef, ast.ClassDef))}
            self.assertLessEqual(set(names), defined)

    def test_no_module_is_left_out(self):
        known = {path.stem for path in FILES.glob("*.py")} - {"__init__", "exact"}
        self.assertEqual({name.split(".")[1] for name in INTERFACE}, known)
