"""The heading raytrain/errors.py of the interface."""

import unittest

from raytrain import errors
from tests.helper import HUGE

FIELDS = {
    "NoSuchElement": "index", "CannotShift": "index", "NoSuchPosition": "index",
    "TokenError": "token", "PowerCut": "written",
}
WITHOUT_FIELDS = ("NoDirection", "EmptyRegion", "NoRays", "EndError", "BadTrain", "TrainFull", "ShutError")


def all_errors():
    """Return one object of each error, by the name of its class."""
    made = {name: getattr(errors, name)(3) for name in FIELDS}
    for name in WITHOUT_FIELDS:
        made[name] = getattr(errors, name)()
    return made


class Kinds(unittest.TestCase):
    def test_the_base_is_a_value_error(self):
        self.assertTrue(issubclass(errors.RaytrainError, ValueError))

    def test_each_is_a_raytrain_error(self):
        for name, error in all_errors().items():
            with self.subTest(name):
                self.assertIsInstance(error, errors.RaytrainError)
                self.assertIsInstance(error, ValueError)

    def test_none_is_an_instance_of_another_one(self):
        for name, error in all_errors().items():
            for other in all_errors():
                with self.subTest(name, other=other):
                    self.assertEqual(isinstance(error, getattr(errors, other)), name == other)

    def test_the_base_is_none_of_the_others(self):
        for name in all_errors():
            with self.subTest(name):
                self.assertNotIsInstance(errors.RaytrainError(), getattr(errors, name))

    def test_none_is_another_error_of_python(self):
        for name, error in all_errors().items():
            with self.subTest(name):
                self.assertNotIsInstance(error, (LookupError, ArithmeticError, RuntimeError, TypeError))

    def test_each_is_caught_by_the_base(self):
        for name, error in all_errors().items():
            with self.subTest(name), self.assertRaises(errors.RaytrainError) as caught:
                raise error
            self.assertIs(caught.exception, error)


class Fields(unittest.TestCase):
    def test_the_field_is_set_when_the_object_is_created(self):
        for name, field in FIELDS.items():
            for value in (0, 1, 7, -2, HUGE):
                with self.subTest(name, value=value):
                    self.assertEqual(vars(getattr(errors, name)(value)), {field: value})

    def test_the_field_can_be_named(self):
        for name, field in FIELDS.items():
            with self.subTest(name):
                self.assertEqual(getattr(getattr(errors, name)(**{field: 5}), field), 5)

    def test_a_field_is_needed(self):
        for name in FIELDS:
            with self.subTest(name), self.assertRaises(TypeError):
                getattr(errors, name)()

    def test_two_objects_have_fields_of_their_own(self):
        first, second = errors.NoSuchElement(1), errors.NoSuchElement(2)
        self.assertEqual((first.index, second.index), (1, 2))

    def test_the_others_have_no_fields(self):
        for name in WITHOUT_FIELDS:
            with self.subTest(name):
                self.assertEqual(vars(getattr(errors, name)()), {})

    def test_each_says_what_is_wrong(self):
        messages = [str(error) for error in all_errors().values()]
        self.assertNotIn("", messages)
        self.assertEqual(len(set(messages)), len(messages))


if __name__ == "__main__":
    unittest.main()
