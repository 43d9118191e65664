"""The names, the files and the parameters that the document's interface tells."""

import importlib
import inspect
import unittest

PARAMETERS = {
    "numbers": {
        "check_fraction": "value", "lowest": "top bottom", "added": "one other", "minus": "one other",
        "times": "one other", "divided": "one other", "halfway": "one other", "compared": "one other",
    },
    "points": {"check_point": "size value", "point_of": "numbers", "numbers_of": "point"},
    "rows": {
        "check_row": "size value", "row_of": "numbers", "coefficients_of": "row", "row_value": "row point",
        "row_sign": "row point", "row_added": "one other", "row_minus": "one other", "row_times": "row value",
        "row_through": "row rows",
    },
    "formulas": {
        "check_formula": "value", "words_of": "formula", "depth_of": "formula", "paths_of": "formula",
        "part_at": "formula path", "level_at": "formula path", "put_at": "formula path part", "parts_of": "formula",
        "signs_of": "formula",
    },
    "fonts": {
        "check_name": "value", "check_font": "value", "is_lawful": "font", "number_of": "font name",
        "times_font": "font value", "put_font": "font other", "cut_font": "font names", "needed": "formula",
    },
    "families": {
        "check_family": "value", "family_pairs": "family", "family_font": "family point", "is_font_of": "family font",
        "need_served": "family formula",
    },
    "boxes": {"box_of": "formula font", "box_at": "formula level font"},
    "places": {"place_of": "formula font path", "sides_of": "formula font path"},
    "texts": {"formula_text": "formula", "read_formula": "text", "font_text": "font", "read_font": "text"},
    "systems": {
        "check_system": "count system", "holds_all": "count system point", "first_broken": "count system point"},
    "bars": {
        "point_or_bar": "count system", "is_bar": "count system weights", "implied": "count system row",
        "needless": "count system",
    },
    "best": {
        "greatest": "count system row", "least": "count system row", "greatest_paper": "count system row",
        "check_greatest": "count system row paper", "range_of": "count system row",
    },
    "covers": {
        "uncovered": "count system systems", "cover_paper": "count system systems",
        "check_cover": "count system systems paper",
    },
    "tops": {
        "check_top": "count value", "top_value": "top point", "top_rows_at": "top point", "top_added": "one other",
        "top_joined": "one other", "top_times": "top value", "top_moved": "top row",
    },
    "counting": {"counts_at": "count system top row", "counting_rows": "count system top"},
    "expressions": {"name_row": "family name", "box_tops": "family formula", "part_tops": "family formula"},
    "never": {
        "never_more": "count system one other", "never_paper": "count system one other",
        "check_never": "count system one other paper",
    },
    "alike": {
        "are_alike": "family formula other", "parting_font": "family formula other",
        "check_parting": "family formula other value",
    },
    "steps": {"steps_of": "formula", "numbers_of_part": "formula path", "step_values": "formula font"},
    "spans": {"step_bounds": "formula family", "open_steps": "formula family"},
    "claims": {
        "check_claim": "formula value", "is_so": "formula font claim", "broken": "claim", "fits": "width",
        "apart": "path other",
    },
    "trees": {
        "leaf_rows": "formula family splits case", "check_tree": "formula family claim tree", "tree_leaves": "tree",
        "tree_splits": "tree",
    },
    "prover": {"judge": "formula family claim", "check_judged": "formula family claim value"},
    "plains": {"plain": "formula", "is_plain": "formula", "table_path": "formula"},
    "clear": {"clear_font": "names"},
    "reading": {"read_picture": "names items"},
    "pictures": {
        "is_one_picture": "formula other", "picture_font": "formula other", "check_picture_font": "formula other font"},
    "sizes": {
        "greatest_size": "family formula word", "least_size": "family formula word", "least_room": "family formula",
        "size_paper": "family formula word side", "check_size": "family formula word side value",
    },
    "leads": {"greatest_lead": "family formula other word", "leading_font": "family formula other word"},
    "slopes": {"slopes": "family formula word", "steepest": "family formula word"},
    "lines": {
        "line_wide": "formula font first last", "breaking_badness": "formula font room breaking",
        "least_badness": "formula font room breaks", "best_breaking": "formula font room breaks",
        "lines_paper": "formula font room breaks", "check_lines": "formula font room breaks value",
    },
    "breakings": {
        "line_rows": "family formula", "beating": "family formula room breaks breaking",
        "is_best": "family formula room breaks breaking", "check_best": "family formula room breaks breaking value",
    },
    "grids": {
        "check_grid": "value", "grid_names": "grid", "columns_of": "grid font", "rows_of": "grid font",
        "last_columns": "grid font width", "slack": "grid font width cell", "grid_items": "grid font", "grid_size": "grid font",
    },
    "chains": {"longest_chain": "grid font boundary", "check_chain": "grid font boundary chain"},
    "widths": {
        "width_top": "grid family", "least_width": "grid family", "fits_grid": "grid family width",
        "fits_paper": "grid family width", "ruling": "grid family",
    },
    "following": {"led_path": "formula path", "led_claim": "formula claim", "is_within": "family other"},
    "desks": {"check_thing": "value"},
    "sheets": {"desk_text": "desk", "read_desk": "text", "judged": "text"},
}

METHODS = {
    "put": "label thing", "drop": "label", "rename": "label fresh", "thing": "label", "labels": "", "undo": "", "redo": "",
    "copy": "", "take": "formula family claim paper", "ask": "formula family claim", "entries": "",
    "verdict": "formula family claim", "paper": "formula family claim", "follows": "formula family claim", "hangs": "label",
    "open_cases": "",
}


class Interface(unittest.TestCase):
    def test_functions_stand_in_their_files(self):
        for file, functions in PARAMETERS.items():
            module = importlib.import_module("everyfont." + file)
            for name, parameters in functions.items():
                with self.subTest(file=file, function=name):
                    function = getattr(module, name)
                    self.assertTrue(inspect.isfunction(function))
                    self.assertEqual(function.__module__, "everyfont." + file)
                    self.assertEqual(list(inspect.signature(function).parameters), parameters.split())

    def test_arguments_may_be_passed_by_position_or_by_name(self):
        for file, functions in PARAMETERS.items():
            module = importlib.import_module("everyfont." + file)
            for name in functions:
                for parameter in inspect.signature(getattr(module, name)).parameters.values():
                    with self.subTest(file=file, function=name, parameter=parameter.name):
                        self.assertIs(parameter.kind, inspect.Parameter.POSITIONAL_OR_KEYWORD)
                        self.assertIs(parameter.default, inspect.Parameter.empty)

    def test_methods_stand_in_their_class(self):
        desk = importlib.import_module("everyfont.desks").Desk
        self.assertEqual(desk.__module__, "everyfont.desks")
        self.assertEqual(list(inspect.signature(desk).parameters), [])
        for name, parameters in METHODS.items():
            with self.subTest(method=name):
                self.assertIn(name, vars(desk))
                own = inspect.signature(vars(desk)[name]).parameters
                self.assertEqual(list(own), ["self"] + parameters.split())
                for parameter in own.values():
                    self.assertIs(parameter.kind, inspect.Parameter.POSITIONAL_OR_KEYWORD)
                    self.assertIs(parameter.default, inspect.Parameter.empty)
        self.assertIsInstance(vars(desk)["acts"], property)
        self.assertIsNone(vars(desk)["acts"].fset)
        for name in ("__len__", "__eq__"):
            self.assertIn(name, vars(desk))


if __name__ == "__main__":
    unittest.main()
