"""The interface: each name is defined in its file, with the parameters' names as written."""

import importlib
import inspect
import unittest

INTERFACE = {
    "numbers": {"greatest": ["number", "other"], "is_prime": ["value"]},
    "lines": {"is_line": ["value"], "degree": ["line"], "line_value": ["line", "number"], "line_slope": ["line"],
              "plain_line": ["line"], "line_sum": ["line", "other"], "line_less": ["line", "other"],
              "line_times": ["line", "other"], "line_divided": ["line", "other"], "line_common": ["line", "other"],
              "resultant": ["line", "other"]},
    "lineparts": {"plain_parts": ["line"], "whole_roots": ["line"], "monic_parts": ["line"]},
}


class InterfaceTest(unittest.TestCase):

    def test_functions(self):
        for module, functions in INTERFACE.items():
            found = importlib.import_module("curvepieces." + module)
            for name, wanted in functions.items():
                function = getattr(found, name)
                self.assertTrue(inspect.isfunction(function), name)
                self.assertEqual(function.__module__, "curvepieces." + module)
                parameters = list(inspect.signature(function).parameters.values())
                self.assertEqual([parameter.name for parameter in parameters], wanted, name)
                for parameter in parameters:
                    self.assertIs(parameter.kind, inspect.Parameter.POSITIONAL_OR_KEYWORD)
                    self.assertIs(parameter.default, inspect.Parameter.empty)


if __name__ == "__main__":
    unittest.main()
