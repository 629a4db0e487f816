"""The names and arguments that the interface lists, each defined in its own file."""

import importlib
import inspect
import unittest

FUNCTIONS = {
    "rationals": {
        "common_divisor": "(first, second)", "fraction": "(numerator, denominator=1)",
        "add": "(first, second)", "subtract": "(first, second)", "multiply": "(first, second)",
        "divide": "(first, second)", "negative": "(value)", "absolute": "(value)", "sign": "(value)",
        "compare": "(first, second)", "is_less": "(first, second)", "is_at_most": "(first, second)",
        "least_of": "(values)", "greatest_of": "(values)", "nearest_to_zero": "(lower, upper)",
    },
    "rays": {
        "passes_stop": "(stop, height)", "gone_through": "(element, ray)",
        "trace_ray": "(train, ray)", "exit_ray": "(train, ray)",
    },
}
CLASSES = {
    "errors": {
        "RaytrainError": None, "NoSuchElement": "(index)", "CannotShift": "(index)", "NoSuchPosition": "(index)",
        "TokenError": "(token)", "PowerCut": "(written)", "NoDirection": "()", "EmptyRegion": "()",
        "NoRays": "()", "EndError": "()", "BadTrain": "()", "TrainFull": "()", "ShutError": "()",
    },
}


def listed(table):
    """Return the tuples (module, name, arguments) of a table."""
    return [(module, name, arguments) for module, names in table.items() for name, arguments in names.items()]


class Interface(unittest.TestCase):
    def test_functions(self):
        for module, name, arguments in listed(FUNCTIONS):
            with self.subTest(module=module, name=name):
                found = getattr(importlib.import_module(f"raytrain.{module}"), name)
                self.assertTrue(inspect.isfunction(found))
                self.assertEqual(found.__module__, f"raytrain.{module}")
                self.assertEqual(str(inspect.signature(found)), arguments)

    def test_classes(self):
        for module, name, arguments in listed(CLASSES):
            with self.subTest(module=module, name=name):
                found = getattr(importlib.import_module(f"raytrain.{module}"), name)
                self.assertTrue(inspect.isclass(found))
                self.assertEqual(found.__module__, f"raytrain.{module}")
                if arguments is not None:
                    self.assertEqual(str(inspect.signature(found)), arguments)


if __name__ == "__main__":
    unittest.main()
