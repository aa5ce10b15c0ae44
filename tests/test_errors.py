import unittest

from jointkeys import errors
from jointkeys.errors import JointError
from tests.helpers import ERRORS, neither_text_nor_number


class ErrorTests(unittest.TestCase):

    def test_there_are_thirteen_of_them(self):
        defined = [name for name, thing in vars(errors).items()
                   if isinstance(thing, type) and thing.__module__ == "jointkeys.errors"]
        self.assertEqual(sorted(defined), sorted(list(ERRORS) + ["JointError"]))

    def test_each_derives_directly_from_the_base(self):
        self.assertEqual(JointError.__bases__, (ValueError,))
        for name in ERRORS:
            self.assertEqual(getattr(errors, name).__bases__, (JointError,), name)

    def test_each_defines_told_itself(self):
        for name, names in ERRORS.items():
            kind = getattr(errors, name)
            self.assertIn("told", vars(kind), name)
            self.assertEqual(kind(*range(len(names))).told(), "refused " + name.lower())

    def test_the_base_tells_of_itself(self):
        self.assertIn("told", vars(JointError))
        self.assertEqual(JointError().told(), "refused jointerror")

    def test_fields_by_position(self):
        for name, names in ERRORS.items():
            given = [["x"], 7][:len(names)]
            error = getattr(errors, name)(*given)
            self.assertEqual([getattr(error, field) for field in names], given, name)

    def test_fields_by_name_in_any_order(self):
        for name, names in ERRORS.items():
            given = {field: place for place, field in enumerate(reversed(names))}
            error = getattr(errors, name)(**given)
            self.assertEqual({field: getattr(error, field) for field in names}, given, name)

    def test_they_keep_what_they_are_given(self):
        for thing in neither_text_nor_number() + [None, "", "a", -1, 10 ** 1000]:
            for name, names in ERRORS.items():
                error = getattr(errors, name)(*[thing] * len(names))
                for field in names:
                    self.assertIs(getattr(error, field), thing)

    def test_each_takes_just_its_fields(self):
        for name, names in ERRORS.items():
            kind = getattr(errors, name)
            with self.assertRaises(TypeError):
                kind(*range(len(names) - 1))
            with self.assertRaises(TypeError):
                kind(*range(len(names) + 1))

    def test_they_are_caught_as_the_base_and_as_value_errors(self):
        for name, names in ERRORS.items():
            for base in (JointError, ValueError):
                with self.assertRaises(base):
                    raise getattr(errors, name)(*range(len(names)))


if __name__ == "__main__":
    unittest.main()
