"""The errors: families, names and fields."""

import unittest

from semirail import errors
from tests.samples import FAMILIES, ODD, error_rows


class ErrorsTest(unittest.TestCase):
    def test_there_are_twenty_seven_in_three_families(self):
        self.assertEqual(len(error_rows()), 27)
        classes = {name for name, thing in vars(errors).items() if isinstance(thing, type)}
        told = {kind.__name__ for kind, _, _, _ in error_rows()} | {family.__name__ for family in FAMILIES}
        self.assertEqual(classes, told)

    def test_each_is_straight_under_its_family(self):
        for kind, family, above, _ in error_rows():
            self.assertEqual(kind.__bases__, (family,))
            self.assertEqual(family.__bases__, (above,))

    def test_each_is_caught_by_its_name_and_families_and_no_other(self):
        rows = error_rows()
        for kind, family, above, fields in rows:
            error = kind(*[None for _ in fields])
            for wanted in (kind, family, above):
                with self.assertRaises(wanted):
                    raise error
            for other, _, _, _ in rows:
                self.assertEqual(isinstance(error, other), other == kind)
            for other, (python, _) in FAMILIES.items():
                self.assertEqual(isinstance(error, other), other == family)
                self.assertEqual(isinstance(error, python), python == above)

    def test_fields_by_place_and_by_name_of_any_things(self):
        for kind, _, _, fields in error_rows():
            for thing in ODD:
                by_place = kind(*[(field, thing) for field in fields])
                by_name = kind(**{field: (field, thing) for field in fields})
                for field in fields:
                    self.assertEqual(getattr(by_place, field), (field, thing))
                    self.assertEqual(getattr(by_name, field), (field, thing))
                self.assertIs(kind(*[thing for _ in fields]).__dict__[fields[0]], thing)

    def test_the_fields_must_be_there(self):
        for kind, _, _, fields in error_rows():
            with self.assertRaises(TypeError):
                kind()
            with self.assertRaises(TypeError):
                kind(*[1 for _ in fields], 1)


if __name__ == "__main__":
    unittest.main()
