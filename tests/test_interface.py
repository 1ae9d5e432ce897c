import ast
import importlib
import inspect
import unittest

# What "The interface" lists: for each file its functions, and its classes with their methods, with the arguments.
LISTED = {
    "words": {"is_word": "value", "is_number": "value"},
    "tables": {
        "Table": {"__init__": "stems places fits", "stems": "", "places": "", "fits": "", "is_fit": "stem place",
                  "fits_of": "stem", "fits_at": "place", "__eq__": "other"},
        "turned": "table", "part_of": "table stems places", "with_fit": "table stem place",
        "without_fit": "table stem place",
    },
    "sides": {"alone": "table", "pendants": "table", "twins": "table", "twin_lots": "table", "pieces_of": "table",
              "crossing_of": "table", "nested_order": "table"},
    "lexemes": {"lexemes": "text"},
    "texts": {"table_text": "table", "read_table": "text"},
    "ladders": {
        "Ladder": {"__init__": "knots arrows stem_homes place_homes", "knots": "", "arrows": "", "stem_homes": "",
                   "place_homes": "", "stem_home": "colour", "place_home": "colour", "leads": "one other",
                   "way": "one other", "pieces": "", "__eq__": "other"},
        "table_of": "ladder stems places", "is_ladder_of": "ladder table", "turned_ladder": "ladder",
        "trimmed": "ladder", "tied": "one other arrow",
    },
    "peelings": {"first_steps": "table", "step_done": "table step", "peeling_of": "table",
                 "judge_peeling": "table value", "ladder_by": "table peeling", "ladder_of": "table"},
    "bars": {"bar_of": "table", "judge_bar": "table value", "rings_of": "table", "dominoes_of": "table"},
    "bags": {
        "Bag": {"__init__": "table joints", "table": "", "joints": "", "names": "", "has_name": "value",
                "stem": "name", "branches": "name", "__eq__": "other"},
        "places_of": "bag roots", "is_place": "bag roots value", "colour_of": "bag roots place",
        "fits_there": "bag roots name place",
    },
    "groves": {
        "Grove": {"__init__": "bag roots bushes", "bag": "", "roots": "", "bushes": "", "rows": "", "joint": "place",
                  "names": "place", "above": "place", "is_above": "one other", "is_apart": "one other",
                  "place": "name", "walk": "", "__eq__": "other"},
    },
    "assemblies": {
        "Assembly": {"__init__": "bag roots rows", "bag": "", "roots": "", "rows": "", "joint": "place",
                     "place": "name", "loops": "", "grove": "", "__eq__": "other"},
        "assembly_of": "grove",
    },
    "grovetexts": {"bag_text": "bag", "grove_text": "grove", "read_bag": "table text", "read_grove": "bag text"},
    "pieces": {"is_stretch": "grove s t", "stretch_joints": "grove s t", "is_deed": "grove value"},
    "deeds": {"done": "grove deed", "deed_back": "grove deed", "canonical": "bag roots deed", "all_deeds": "grove"},
    "scripts": {"steps": "grove script", "walked": "grove script", "script_back": "grove script",
                "first_bad": "grove value", "price": "script", "script_text": "script", "read_script": "text"},
    "plainwalks": {"within": "f most", "fewest_by_walks": "f g most", "walk_by_walks": "f g most", "reached": "f"},
    "flows": {"flows": "ladder bag roots", "crossings": "ladder assembly"},
    "flats": {"adapters": "ladder bag roots", "flat_places": "ladder bag roots", "knot_at": "ladder bag roots place",
              "is_flat": "ladder bag roots value", "first_flat": "ladder grove", "count_flats": "ladder bag roots",
              "flat_rows": "ladder bag roots flat"},
    "matches": {"flat_rings": "ladder bag roots one other", "matched": "ladder f g",
                "judge_matched": "ladder f g value", "flat_way": "ladder bag roots one other"},
    "seen": {"seen_grove": "ladder bag roots flat", "top": "ladder bag roots flat place",
             "is_flat_deed": "ladder bag roots flat value", "done_flat": "ladder bag roots flat deed",
             "seen_deed": "ladder bag roots flat deed", "seen_script": "ladder bag roots flat script"},
    "building": {"unbalanced_pieces": "ladder bag roots", "reached_knots": "ladder bag roots",
                 "can_build": "ladder bag roots", "built": "ladder bag roots"},
    "barred": {"unbuilt_paper": "ladder bag roots", "judge_unbuilt": "ladder bag roots value",
               "possible_roots": "ladder bag"},
    "rings": {"difference": "f g", "rings": "f g", "right_places": "f g"},
    "coins": {"due": "f g", "coins": "f g", "way": "f g", "judge_way": "f g script", "touched": "f deed",
              "change": "f g deed"},
    "between": {"begins": "f g deed", "first_deeds": "f g", "is_between": "f h g", "all_between": "f g",
                "nearest_grove": "f groves"},
    "breaking": {"breaking": "table", "judge_breaking": "table value"},
    "matrices": {"determinant": "rows", "fraction_determinant": "rows", "flat_matrix": "ladder bag roots"},
    "counting": {"count_assemblies": "bag roots", "count_groves": "bag roots", "count_beginning": "bag roots names",
                 "first_joints": "bag roots"},
    "chances": {"chance_of_stem": "bag roots place stem", "chance_of_joint": "bag roots place name",
                "mean": "bag roots one other", "means": "bag roots", "share": "bag roots"},
    "numbering": {"grove_at": "bag roots number", "number_of": "grove", "next_grove": "grove",
                  "groves_from": "bag roots * number many", "drawn_grove": "bag roots number"},
    "kinds": {
        "Kinds": {"__init__": "pairs", "pairs": "", "kinds": "", "elder": "kind", "elders": "kind",
                  "is_under": "kind other", "common_kind": "kind other", "__eq__": "other"},
        "kinds_table": "kinds", "kinds_ladder": "kinds", "kinds_of": "table",
    },
    "changes": {"is_change": "table value", "changed": "table change", "good_changes": "table", "fits_used": "grove",
                "lives_in": "grove table", "grove_over": "grove table"},
    "nearby": {"how_far": "table", "nearest_tables": "table", "far_paper": "table many",
               "judge_far": "table many value"},
    "goals": {"dues_after": "f g script", "wasted": "f g script", "barred_nails": "f g places"},
    "acts": {"act_word": "stand act", "stand_after": "stand act", "good_acts": "stand"},
    "house": {
        "House": {"__init__": "grove", "grove": "", "goal": "", "nails": "", "stand": "", "kin": "", "do": "act",
                  "undo": "", "redo": "", "done": "", "undone": "", "tried": "acts", "would": "acts", "paid": "",
                  "due": "", "waste": "", "left": "", "way": "", "keep": "name", "marks": "", "marked": "name",
                  "due_to": "name", "twin": "", "__eq__": "other"},
    },
    "console": {"Console": {"__init__": "house", "house": "", "say": "line"}},
}


def arguments_of(node):
    behind = [one.arg for one in node.args.kwonlyargs]
    return [one.arg for one in node.args.args] + ["*"] * bool(behind) + behind


class Interface(unittest.TestCase):
    def test_each_name_is_defined_in_its_file(self):
        for name, listed in LISTED.items():
            module = importlib.import_module("kindredbush." + name)
            body = {node.name: node for node in ast.parse(inspect.getsource(module)).body
                    if isinstance(node, (ast.FunctionDef, ast.ClassDef))}
            for told, arguments in listed.items():
                with self.subTest(module=name, name=told):
                    self.assertIn(told, body)
                    self.assertTrue(callable(getattr(module, told)))
                    if isinstance(arguments, str):
                        self.assertIsInstance(body[told], ast.FunctionDef)
                        self.assertEqual(arguments_of(body[told]), arguments.split())
                    else:
                        self.check_class(body[told], arguments)

    def check_class(self, node, listed):
        self.assertIsInstance(node, ast.ClassDef)
        self.assertEqual(node.bases, [])
        methods = {one.name: one for one in node.body if isinstance(one, ast.FunctionDef)}
        for name, arguments in listed.items():
            self.assertIn(name, methods)
            self.assertEqual(arguments_of(methods[name]), ["self"] + arguments.split())
