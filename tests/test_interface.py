"""The names and arguments that the interface lists, each defined in its own file."""

import importlib
import inspect
import unittest

FUNCTIONS = {
    "rationals": {
        "common_divisor": "(first, second)", "fraction": "(numerator, denominator=1)",
        "add": "(first, second)", "subtract": "(first, second)", "multiply": "(first, second)",
        "divide": "(first, second)", "negative": "(value)", "absolute": "(value)", "sign": "(value)",
        "compare": "(first, second)", "is_less": "(first, second)", "is_at_most": "(first, second)",
        "least_of": "(values)", "greatest_of": "(values)", "nearest_to_zero": "(lower, upper)",
    },
    "rays": {
        "passes_stop": "(stop, height)", "gone_through": "(element, ray)",
        "trace_ray": "(train, ray)", "exit_ray": "(train, ray)",
    },
    "maps": {
        "element_map": "(element)", "ray_transfer": "(train)", "apply_map": "(map_used, ray)",
        "compose_maps": "(first, second)", "invert_map": "(map_used)",
        "image_distance": "(map_used, distance)", "magnification": "(map_used, distance)",
    },
    "regions": {
        "make_half_plane": "(p, q, r)", "half_planes_of": "(train)", "value_at": "(half_plane, ray)",
        "contains_ray": "(half_planes, ray)", "is_empty": "(half_planes)", "determinant": "(first, second)",
        "product": "(first, second)", "supremum": "(half_planes, p, q)", "infimum": "(half_planes, p, q)",
        "direction_range": "(half_planes, p, q)", "region_kind": "(half_planes)", "line_of": "(half_planes)",
        "sample_ray": "(half_planes)", "map_half_planes": "(map_used, half_planes)",
    },
    "shapes": {
        "meeting": "(first, second)", "corners": "(half_planes)", "is_bounded": "(half_planes)",
        "area": "(half_planes)",
    },
    "papers": {
        "emptiness_certificate": "(half_planes)", "verify_emptiness": "(half_planes, certificate)",
        "implication_certificate": "(half_planes, half_plane)",
        "verify_implication": "(half_planes, half_plane, certificate)",
        "sum_of": "(half_planes, certificate)", "is_implied": "(half_planes, half_plane)",
    },
    "texts": {
        "format_fraction": "(value)", "format_train": "(train)", "tokens_of": "(text)", "parse_train": "(text)",
    },
    "order": {
        "cross": "(one, other)", "dot": "(one, other)", "opposite": "(half_plane)",
        "comes_before": "(one, other)", "in_order": "(half_planes)",
    },
    "equivalence": {
        "canonical_half_planes": "(half_planes)", "canonical_form": "(train)", "are_equivalent": "(train, other)",
        "without_edge": "(train, edge)", "redundant_edges": "(train)", "simplify": "(train)",
        "minimum_stops": "(train)",
    },
    "telling": {"distinguishing_ray": "(train, other)"},
    "bundles": {
        "bundle": "(train, distance, height)", "pupils": "(train)", "field_of_view": "(train, distance)",
        "bundle_widths": "(train, distance)", "acceptance_area": "(train)",
    },
    "synthesis": {"train_for_map": "(transfer)", "train_for_region": "(transfer, half_planes)"},
    "tolerances": {
        "clearances": "(train, rays)", "decenter_effect": "(train, index)",
        "decenter_range": "(train, index, rays)",
    },
    "forever": {"stays_below": "(first, second, third, trace)"},
    "resonators": {
        "trace_of": "(transfer)", "power_of": "(transfer, many)", "order_of": "(transfer)",
        "fixed_ray": "(transfer)", "passes": "(train, ray, most)", "pass_planes": "(train, many)",
        "stays": "(train, ray)", "settled": "(train, most)", "is_kept": "(train)",
    },
    "catalogue": {"shortest_train": "(stock, train, most)"},
    "journal": {
        "record_of": "(operation)", "recovered": "(octets)", "opened": "(train, octets, power)",
    },
}
CLASSES = {
    "errors": {
        "RaytrainError": None, "NoSuchElement": "(index)", "CannotShift": "(index)", "NoSuchPosition": "(index)",
        "TokenError": "(token)", "PowerCut": "(written)", "NoDirection": "()", "EmptyRegion": "()",
        "NoRays": "()", "EndError": "()", "BadTrain": "()", "TrainFull": "()", "ShutError": "()",
    },
    "bench": {"Bench": "(train)"},
    "journal": {"Device": "(octets, power)", "JournaledBench": "(bench, device)"},
}
METHODS = {
    ("bench", "Bench"): {
        "train": "(self)", "operations": "(self)", "history": "(self)", "put": "(self, index, element)",
        "take": "(self, index)", "exchange": "(self, index, element)", "undo": "(self)", "branch": "(self)",
    },
    ("journal", "Device"): {"append": "(self, octet)"},
    ("journal", "JournaledBench"): {"perform": "(self, operation)"},
}
VALUES = {"rationals": ["ZERO", "ONE"], "maps": ["IDENTITY"]}


def listed(table):
    """Return the tuples (module, name, arguments) of a table."""
    return [(module, name, arguments) for module, names in table.items() for name, arguments in names.items()]


class Interface(unittest.TestCase):
    def test_functions(self):
        for module, name, arguments in listed(FUNCTIONS):
            with self.subTest(module=module, name=name):
                found = getattr(importlib.import_module(f"raytrain.{module}"), name)
                self.assertTrue(inspect.isfunction(found))
                self.assertEqual(found.__module__, f"raytrain.{module}")
                self.assertEqual(str(inspect.signature(found)), arguments)

    def test_classes(self):
        for module, name, arguments in listed(CLASSES):
            with self.subTest(module=module, name=name):
                found = getattr(importlib.import_module(f"raytrain.{module}"), name)
                self.assertTrue(inspect.isclass(found))
                self.assertEqual(found.__module__, f"raytrain.{module}")
                if arguments is not None:
                    self.assertEqual(str(inspect.signature(found)), arguments)

    def test_methods_stand_in_their_classes(self):
        for (module, name), methods in METHODS.items():
            found = getattr(importlib.import_module(f"raytrain.{module}"), name)
            for method, arguments in methods.items():
                with self.subTest(module=module, name=name, method=method):
                    self.assertTrue(inspect.isfunction(vars(found)[method]))
                    self.assertEqual(str(inspect.signature(vars(found)[method])), arguments)

    def test_values(self):
        for module, names in VALUES.items():
            for name in names:
                self.assertIsInstance(getattr(importlib.import_module(f"raytrain.{module}"), name), tuple)


if __name__ == "__main__":
    unittest.main()
