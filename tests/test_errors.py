"""The interface under sameanswers/errors.py: the classes, their fields and their base classes."""

import unittest

from sameanswers import errors

PLAIN = (
    "NoSession",
    "TooManySessions",
    "WrongPosition",
    "JournalFull",
    "TooManyVersions",
    "TooManyChecks",
    "NoCheck",
    "NotHeld",
    "NotKept",
    "NotOpen",
    "LogFull",
    "PowerCut",
    "NoLetter",
    "AtWork",
)
ALL = ("TextFault", "OutOfRange") + PLAIN


class ErrorsTest(unittest.TestCase):
    def test_the_base_class_is_a_value_error(self):
        self.assertEqual(errors.TrunkError.__bases__, (ValueError,))

    def test_each_class_stands_directly_below_the_base_class(self):
        for name in ALL:
            with self.subTest(name=name):
                self.assertEqual(getattr(errors, name).__bases__, (errors.TrunkError,))

    def test_none_is_a_subclass_of_another_one(self):
        for name in ALL:
            for other in ALL:
                with self.subTest(name=name, other=other):
                    below = issubclass(getattr(errors, name), getattr(errors, other))
                    self.assertEqual(below, name == other)

    def test_each_class_is_defined_in_its_file_under_its_name(self):
        for name in ("TrunkError",) + ALL:
            with self.subTest(name=name):
                made = getattr(errors, name)
                self.assertEqual((made.__module__, made.__name__), ("sameanswers.errors", name))

    def test_a_text_fault_has_its_line_column_and_words(self):
        fault = errors.TextFault(3, 14, "expected a path")
        self.assertEqual((fault.line, fault.column, fault.words), (3, 14, "expected a path"))

    def test_a_text_fault_takes_its_fields_by_name(self):
        fault = errors.TextFault(words="expected (", column=2, line=1)
        self.assertEqual((fault.line, fault.column, fault.words), (1, 2, "expected ("))

    def test_out_of_range_has_its_name(self):
        self.assertEqual(errors.OutOfRange("files").name, "files")
        self.assertEqual(errors.OutOfRange(name="path").name, "path")

    def test_each_object_has_fields_of_its_own(self):
        first = errors.OutOfRange("files")
        second = errors.OutOfRange("path")
        self.assertEqual((first.name, second.name), ("files", "path"))

    def test_the_classes_with_fields_take_just_these(self):
        for made, args in ((errors.TextFault, (1, 2)), (errors.OutOfRange, ())):
            with self.subTest(made=made.__name__):
                with self.assertRaises(TypeError):
                    made(*args)
                with self.assertRaises(TypeError):
                    made(1, 2, "words", "more")

    def test_the_others_are_made_with_one_string_and_have_no_fields(self):
        for name in PLAIN:
            with self.subTest(name=name):
                error = getattr(errors, name)("what happened")
                self.assertEqual(str(error), "what happened")
                self.assertEqual(vars(error), {})

    def test_each_can_be_raised_and_caught_as_itself_and_as_the_base_class(self):
        made = [getattr(errors, name)("words") for name in PLAIN]
        made += [errors.TextFault(1, 1, "expected ("), errors.OutOfRange("files")]
        for error in made:
            for caught in (type(error), errors.TrunkError, ValueError):
                with self.subTest(error=error, caught=caught.__name__):
                    with self.assertRaises(caught) as held:
                        raise error
                    self.assertIs(held.exception, error)


if __name__ == "__main__":
    unittest.main()
