"""Points 21 and 22: the error classes and their attributes."""

import unittest

from nearsettled import errors

WITHOUT = [
    "NoList", "BadWidth", "BadArity", "BadLength", "BadSpots", "BadOrder", "Unlike", "BadArguments", "BadPlaces",
    "BadAnswer", "BadChoice", "NoMeet", "BadNear",
]
WITH = {
    "BadRow": "number", "BadCell": "number", "BadTable": "number", "NoNumber": "number", "BadUse": "number",
    "HasAnswer": "answer", "NoFold": "number", "NoMark": "number", "BadText": "line",
}


class ErrorsTest(unittest.TestCase):
    def test_near_error_is_a_direct_subclass_of_value_error(self):
        self.assertEqual(errors.NearError.__bases__, (ValueError,))

    def test_all_classes_are_direct_subclasses_of_near_error(self):
        for name in [*WITHOUT, *WITH]:
            with self.subTest(name):
                made = getattr(errors, name)
                self.assertEqual(made.__bases__, (errors.NearError,))
                self.assertEqual((made.__name__, made.__module__), (name, "nearsettled.errors"))

    def test_there_are_no_other_classes(self):
        found = sorted(name for name, value in vars(errors).items() if isinstance(value, type))
        self.assertEqual(found, sorted([*WITHOUT, *WITH, "NearError"]))

    def test_those_without_arguments_have_no_attributes(self):
        for name in WITHOUT:
            with self.subTest(name):
                self.assertEqual(vars(getattr(errors, name)()), {})

    def test_attributes_by_position_and_by_name(self):
        for name, attribute in WITH.items():
            for value in (0, 7, (0, 1), None, "word", [1, [2]]):
                with self.subTest(name, value=value):
                    made = getattr(errors, name)
                    self.assertEqual(vars(made(value)), {attribute: value})
                    self.assertEqual(vars(made(**{attribute: value})), {attribute: value})

    def test_attributes_are_what_was_handed_in(self):
        for name, attribute in WITH.items():
            with self.subTest(name):
                value = [1]
                self.assertIs(getattr(getattr(errors, name)(value), attribute), value)

    def test_those_with_an_argument_need_it(self):
        for name in WITH:
            with self.subTest(name), self.assertRaises(TypeError):
                getattr(errors, name)()

    def test_caught_as_near_error_and_as_value_error(self):
        for caught in (errors.NearError, ValueError):
            with self.assertRaises(caught):
                raise errors.BadText(line=1)


if __name__ == "__main__":
    unittest.main()
