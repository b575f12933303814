import unittest

from leanbundle import errors

PLAIN = ["BadProgram", "BadLot", "BadLayout", "BadPlace", "BadMade", "BadNeed", "TooMany", "BadOptions", "ManyDoors",
         "BadStep", "BadPart", "BadValue", "NothingToUndo", "BadCommand"]
WITH_FIELD = {"BadRun": "place", "BadText": "line"}


def named(name):
    return getattr(errors, name)


class ErrorsTest(unittest.TestCase):
    def test_bundle_error_is_a_value_error(self):
        self.assertEqual(errors.BundleError.__bases__, (ValueError,))
        with self.assertRaises(ValueError):
            raise errors.BundleError("any text")

    def test_there_are_sixteen_and_each_stands_directly_under_bundle_error(self):
        names = PLAIN + list(WITH_FIELD)
        self.assertEqual(len(names), 16)
        for name in names:
            self.assertEqual(named(name).__bases__, (errors.BundleError,), name)
            self.assertEqual(named(name).__module__, "leanbundle.errors", name)

    def test_none_stands_under_another_one(self):
        names = PLAIN + list(WITH_FIELD)
        for name in names:
            for other in names:
                self.assertEqual(issubclass(named(name), named(other)), name == other, (name, other))

    def test_those_without_a_field_are_made_with_a_text(self):
        for name in PLAIN:
            with self.assertRaises(named(name)) as caught:
                raise named(name)("a text")
            self.assertEqual(str(caught.exception), "a text")

    def test_fields_by_position_and_by_name(self):
        for name, field in WITH_FIELD.items():
            for number in (-1, 0, 7, 100):
                self.assertEqual(getattr(named(name)(number), field), number)
                self.assertEqual(getattr(named(name)(**{field: number}), field), number)

    def test_a_field_belongs_to_each_object_of_its_own(self):
        one, other = errors.BadRun(3), errors.BadRun(place=4)
        self.assertEqual((one.place, other.place), (3, 4))
        self.assertEqual(vars(one), {"place": 3})
        self.assertEqual(vars(errors.BadText(5)), {"line": 5})

    def test_other_names_and_numbers_of_arguments_are_not_taken(self):
        for wrong in (lambda: errors.BadRun(), lambda: errors.BadRun(1, 2), lambda: errors.BadRun(line=1),
                      lambda: errors.BadText(), lambda: errors.BadText(place=1)):
            self.assertRaises(TypeError, wrong)


if __name__ == "__main__":
    unittest.main()
