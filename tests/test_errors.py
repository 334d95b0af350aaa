"""Point 3: all errors are classes under FieldError."""

import unittest

from fieldquery import errors

PLAIN = ("BadSchema", "TooLong", "BadGraph", "TooLarge", "NotDetermined", "Contradiction", "StoreFull")
WITH_FIELDS = ("SyntaxFault", "CheckFault", "NoMatch")


class TestBases(unittest.TestCase):
    def test_base_is_a_value_error(self):
        self.assertEqual(errors.FieldError.__bases__, (ValueError,))

    def test_each_class_is_under_the_base(self):
        for name in PLAIN + WITH_FIELDS:
            with self.subTest(name):
                self.assertEqual(getattr(errors, name).__bases__, (errors.FieldError,))

    def test_plain_errors_are_made_with_a_message(self):
        for name in PLAIN + ("FieldError",):
            with self.subTest(name):
                with self.assertRaises(errors.FieldError) as caught:
                    raise getattr(errors, name)("why")
                self.assertEqual(str(caught.exception), "why")

    def test_no_other_classes(self):
        found = [name for name, value in vars(errors).items() if isinstance(value, type)]
        self.assertEqual(sorted(found), sorted(PLAIN + WITH_FIELDS + ("FieldError",)))


class TestFields(unittest.TestCase):
    def test_syntax_fault(self):
        for offset in (0, 7, 400):
            with self.subTest(offset):
                self.assertEqual(errors.SyntaxFault(offset).offset, offset)

    def test_syntax_fault_by_name(self):
        self.assertEqual(errors.SyntaxFault(offset=3).offset, 3)

    def test_check_fault(self):
        fault = errors.CheckFault("unknown field", "User.age")
        self.assertEqual((fault.reason, fault.name), ("unknown field", "User.age"))

    def test_check_fault_by_name(self):
        fault = errors.CheckFault(name="Post", reason="unknown type")
        self.assertEqual((fault.reason, fault.name), ("unknown type", "Post"))

    def test_no_match(self):
        for index in (0, 12):
            with self.subTest(index):
                self.assertEqual(errors.NoMatch(index).index, index)
        self.assertEqual(errors.NoMatch(index=1).index, 1)

    def test_fields_are_told_in_the_message(self):
        self.assertIn("17", str(errors.SyntaxFault(17)))
        self.assertIn("User.age", str(errors.CheckFault("unknown field", "User.age")))
        self.assertIn("unknown field", str(errors.CheckFault("unknown field", "User.age")))
        self.assertIn("3", str(errors.NoMatch(3)))

    def test_what_is_missing_cannot_be_left_out(self):
        for name in WITH_FIELDS:
            with self.subTest(name):
                self.assertRaises(TypeError, getattr(errors, name))

    def test_fields_belong_to_one_error(self):
        first, second = errors.SyntaxFault(1), errors.SyntaxFault(2)
        self.assertEqual((first.offset, second.offset), (1, 2))


if __name__ == "__main__":
    unittest.main()
