"""The interface: each name is defined in its file, with the parameters' names as written."""

import importlib
import inspect
import unittest

from curvepieces import desk

INTERFACE = {
    "numbers": {"greatest": ["number", "other"], "is_prime": ["value"]},
    "lines": {"is_line": ["value"], "degree": ["line"], "line_value": ["line", "number"], "line_slope": ["line"],
              "plain_line": ["line"], "line_sum": ["line", "other"], "line_less": ["line", "other"],
              "line_times": ["line", "other"], "line_divided": ["line", "other"], "line_common": ["line", "other"],
              "resultant": ["line", "other"]},
    "lineparts": {"plain_parts": ["line"], "whole_roots": ["line"], "monic_parts": ["line"]},
    "planes": {"is_plane": ["value"], "degrees": ["plane"], "head": ["plane"], "plane_sum": ["plane", "other"],
               "plane_less": ["plane", "other"], "plane_times": ["plane", "other"],
               "plane_value": ["plane", "x", "y"], "at_x": ["plane", "number"], "at_y": ["plane", "number"],
               "slope_x": ["plane"], "slope_y": ["plane"], "plain_plane": ["plane"]},
    "letters": {"exchanged": ["plane"], "is_change": ["value"], "changed": ["plane", "change"]},
    "planeparts": {"goes_into": ["plane", "other"], "plane_quotient": ["plane", "other"],
                   "plane_common": ["plane", "other"], "is_clean": ["plane"], "clean_place": ["plane"]},
    "slopes": {"unknowns": ["plane"], "slope_table": ["plane"], "slope_rows": ["plane"], "piece_count": ["plane"],
               "is_slope_row": ["plane", "value"], "minor": ["plane", "equations", "places"],
               "count_paper": ["plane"], "is_count_paper": ["plane", "many", "value"]},
    "products": {"product_table": ["plane"], "one_row": ["plane"], "own_line": ["plane", "row"],
                 "parts_all": ["plane", "row"], "parting_row": ["plane"]},
    "fracparts": {"part_lines": ["plane"], "fraction_parts": ["plane"], "is_whole": ["plane"]},
    "rootnumbers": {"is_root": ["value"], "is_number": ["root", "value"], "root_plus": ["root", "one", "other"],
                    "root_times": ["root", "one", "other"], "root_over": ["root", "one", "other"],
                    "norm": ["root", "one"]},
    "pieces": {"pieces": ["plane"], "product_over": ["root", "rows"], "is_piece": ["plane", "value"]},
    "residues": {"plane_modulo": ["plane", "prime"], "is_clean_modulo": ["plane", "prime"],
                 "count_modulo": ["plane", "prime"]},
    "guards": {"prime_bound": ["plane"], "guards": ["plane"], "is_good": ["plane", "prime"], "least_good": ["plane"]},
    "curves": {"is_curve": ["value"], "curve_degree": ["curve"], "point_at": ["curve", "number"],
               "point_after": ["curve"], "by_time": ["curve", "line"]},
    "followers": {"is_follower": ["curve", "value"], "follower_degrees": ["curve"], "followers": ["curve"],
                  "is_pair": ["curve", "value"], "follower_count": ["curve", "many"],
                  "by_pair": ["curve", "pair", "follower"]},
    "equations": {"is_form": ["value"], "equation": ["curve"], "drawn": ["curve"], "lies_on": ["curve", "form"]},
    "passings": {"passings": ["curve", "root", "point"], "passing_count": ["curve", "root", "point"]},
    "meetings": {"meetings": ["curve", "form"]},
    "texts": {"line_text": ["line"], "plane_text": ["plane"], "curve_text": ["curve"], "change_text": ["change"]},
    "readers": {"line_of": ["text"], "plane_of": ["text"], "curve_of": ["text"], "change_of": ["text"]},
    "claims": {"words": [], "is_claim": ["value"], "is_true": ["claim"], "contrary": ["claim"], "paper_of": ["claim"],
               "is_paper_of": ["claim", "value"]},
    "commands": {"is_name": ["value"], "is_command": ["value"], "is_deed": ["value"]},
    "desk": {"tried": ["desk", "action"]},
}

# The methods that each class defines itself, with their parameters but the first one; * is for those of any number.
CLASSES = {
    "Desk": {"__init__": [], "__len__": [], "__getitem__": None, "__contains__": None, "__call__": ["command"],
             "claim_of": ["label"], "do": ["command"], "do_all": ["*commands"], "attempt": ["*commands"],
             "attach": ["label", "paper"], "fits": ["label"], "lines": [], "copy": [], "again": ["lines"]},
    "Trial": {"__init__": ["desk"], "__enter__": [], "__exit__": None},
}


class InterfaceTest(unittest.TestCase):

    def test_functions(self):
        for module, functions in INTERFACE.items():
            found = importlib.import_module("curvepieces." + module)
            for name, wanted in functions.items():
                function = getattr(found, name)
                self.assertTrue(inspect.isfunction(function), name)
                self.assertEqual(function.__module__, "curvepieces." + module)
                parameters = list(inspect.signature(function).parameters.values())
                self.assertEqual([parameter.name for parameter in parameters], wanted, name)
                for parameter in parameters:
                    self.assertIs(parameter.kind, inspect.Parameter.POSITIONAL_OR_KEYWORD)
                    self.assertIs(parameter.default, inspect.Parameter.empty)

    def test_classes(self):
        for name, methods in CLASSES.items():
            found = getattr(desk, name)
            self.assertEqual((found.__module__, found.__bases__), ("curvepieces.desk", (object,)))
            for method, wanted in methods.items():
                function = vars(found)[method]
                self.assertIs(isinstance(function, classmethod), method == "again")
                if wanted is not None:
                    parameters = list(inspect.signature(getattr(function, "__func__", function)).parameters.values())
                    told = ["*" * (parameter.kind is inspect.Parameter.VAR_POSITIONAL) + parameter.name
                            for parameter in parameters[1:]]
                    self.assertEqual(told, wanted, method)
        for name in ("names", "labels"):
            self.assertIsInstance(vars(desk.Desk)[name], property)


if __name__ == "__main__":
    unittest.main()
