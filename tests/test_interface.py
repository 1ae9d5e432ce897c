import ast
import importlib
import inspect
import unittest

# What "The interface" lists: for each file its functions, and its classes with their methods, with the arguments.
LISTED = {
    "words": {"is_word": "value", "is_number": "value"},
    "tables": {
        "Table": {"__init__": "stems places fits", "stems": "", "places": "", "fits": "", "is_fit": "stem place",
                  "fits_of": "stem", "fits_at": "place", "__eq__": "other"},
        "turned": "table", "part_of": "table stems places", "with_fit": "table stem place",
        "without_fit": "table stem place",
    },
    "sides": {"alone": "table", "pendants": "table", "twins": "table", "twin_lots": "table", "pieces_of": "table",
              "crossing_of": "table", "nested_order": "table"},
    "lexemes": {"lexemes": "text"},
    "texts": {"table_text": "table", "read_table": "text"},
    "ladders": {
        "Ladder": {"__init__": "knots arrows stem_homes place_homes", "knots": "", "arrows": "", "stem_homes": "",
                   "place_homes": "", "stem_home": "colour", "place_home": "colour", "leads": "one other",
                   "way": "one other", "pieces": "", "__eq__": "other"},
        "table_of": "ladder stems places", "is_ladder_of": "ladder table", "turned_ladder": "ladder",
        "trimmed": "ladder", "tied": "one other arrow",
    },
    "peelings": {"first_steps": "table", "step_done": "table step", "peeling_of": "table",
                 "judge_peeling": "table value", "ladder_by": "table peeling", "ladder_of": "table"},
    "bars": {"bar_of": "table", "judge_bar": "table value", "rings_of": "table", "dominoes_of": "table"},
    "bags": {
        "Bag": {"__init__": "table joints", "table": "", "joints": "", "names": "", "has_name": "value",
                "stem": "name", "branches": "name", "__eq__": "other"},
        "places_of": "bag roots", "is_place": "bag roots value", "colour_of": "bag roots place",
        "fits_there": "bag roots name place",
    },
    "groves": {
        "Grove": {"__init__": "bag roots bushes", "bag": "", "roots": "", "bushes": "", "rows": "", "joint": "place",
                  "names": "place", "above": "place", "is_above": "one other", "is_apart": "one other",
                  "place": "name", "walk": "", "__eq__": "other"},
    },
    "assemblies": {
        "Assembly": {"__init__": "bag roots rows", "bag": "", "roots": "", "rows": "", "joint": "place",
                     "place": "name", "loops": "", "grove": "", "__eq__": "other"},
        "assembly_of": "grove",
    },
    "grovetexts": {"bag_text": "bag", "grove_text": "grove", "read_bag": "table text", "read_grove": "bag text"},
    "pieces": {"is_stretch": "grove s t", "stretch_joints": "grove s t", "is_deed": "grove value"},
    "deeds": {"done": "grove deed", "deed_back": "grove deed", "canonical": "bag roots deed", "all_deeds": "grove"},
    "scripts": {"steps": "grove script", "walked": "grove script", "script_back": "grove script",
                "first_bad": "grove value", "price": "script", "script_text": "script", "read_script": "text"},
    "plainwalks": {"within": "f most", "fewest_by_walks": "f g most", "walk_by_walks": "f g most", "reached": "f"},
    "flows": {"flows": "ladder bag roots", "crossings": "ladder assembly"},
    "flats": {"adapters": "ladder bag roots", "flat_places": "ladder bag roots", "knot_at": "ladder bag roots place",
              "is_flat": "ladder bag roots value", "first_flat": "ladder grove", "count_flats": "ladder bag roots",
              "flat_rows": "ladder bag roots flat"},
    "matches": {"flat_rings": "ladder bag roots one other", "matched": "ladder f g",
                "judge_matched": "ladder f g value", "flat_way": "ladder bag roots one other"},
    "seen": {"seen_grove": "ladder bag roots flat", "top": "ladder bag roots flat place",
             "is_flat_deed": "ladder bag roots flat value", "done_flat": "ladder bag roots flat deed",
             "seen_deed": "ladder bag roots flat deed", "seen_script": "ladder bag roots flat script"},
    "building": {"unbalanced_pieces": "ladder bag roots", "reached_knots": "ladder bag roots",
                 "can_build": "ladder bag roots", "built": "ladder bag roots"},
    "barred": {"unbuilt_paper": "ladder bag roots", "judge_unbuilt": "ladder bag roots value",
               "possible_roots": "ladder bag"},
    "rings": {"difference": "f g", "rings": "f g", "right_places": "f g"},
    "coins": {"due": "f g", "coins": "f g", "way": "f g", "judge_way": "f g script", "touched": "f deed",
              "change": "f g deed"},
}


def arguments_of(node):
    return [one.arg for one in node.args.args]


class Interface(unittest.TestCase):
    def test_each_name_is_defined_in_its_file(self):
        for name, listed in LISTED.items():
            module = importlib.import_module("kindredbush." + name)
            body = {node.name: node for node in ast.parse(inspect.getsource(module)).body
                    if isinstance(node, (ast.FunctionDef, ast.ClassDef))}
            for told, arguments in listed.items():
                with self.subTest(module=name, name=told):
                    self.assertIn(told, body)
                    self.assertTrue(callable(getattr(module, told)))
                    if isinstance(arguments, str):
                        self.assertIsInstance(body[told], ast.FunctionDef)
                        self.assertEqual(arguments_of(body[told]), arguments.split())
                    else:
                        self.check_class(body[told], arguments)

    def check_class(self, node, listed):
        self.assertIsInstance(node, ast.ClassDef)
        self.assertEqual(node.bases, [])
        methods = {one.name: one for one in node.body if isinstance(one, ast.FunctionDef)}
        for name, arguments in listed.items():
            self.assertIn(name, methods)
            self.assertEqual(arguments_of(methods[name]), ["self"] + arguments.split())
