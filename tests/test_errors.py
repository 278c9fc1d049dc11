"""Point 3 and the part restruct/errors.py of the interface."""

import unittest

from restruct.errors import (
    BadLine, CannotApply, NoSuchLabel, NotReducible, SourceFault, SyntaxFault, TooMany, WorkError)

KINDS = (SyntaxFault, SourceFault, CannotApply, BadLine, TooMany, NotReducible, NoSuchLabel)


class Kinds(unittest.TestCase):

    def test_the_base_is_a_value_error(self):
        self.assertTrue(issubclass(WorkError, ValueError))

    def test_each_error_is_a_work_error_and_a_value_error(self):
        for kind in KINDS:
            with self.subTest(kind=kind.__name__):
                self.assertTrue(issubclass(kind, WorkError))
                self.assertTrue(issubclass(kind, ValueError))

    def test_no_error_is_one_of_another_kind(self):
        for kind in KINDS:
            for other in KINDS:
                if kind is not other:
                    self.assertFalse(issubclass(kind, other), (kind, other))

    def test_the_base_is_none_of_the_others(self):
        for kind in KINDS:
            self.assertFalse(issubclass(WorkError, kind), kind)


class Fields(unittest.TestCase):

    def test_syntax_fault_has_its_line(self):
        for line in (1, 17):
            self.assertEqual(SyntaxFault(line).line, line)

    def test_source_fault_has_its_reason_and_label(self):
        fault = SourceFault("duplicate label", "a.2")
        self.assertEqual((fault.reason, fault.label), ("duplicate label", "a.2"))

    def test_source_fault_without_a_label(self):
        fault = SourceFault("too many nodes", None)
        self.assertEqual(fault.reason, "too many nodes")
        self.assertIsNone(fault.label)

    def test_cannot_apply_has_its_index(self):
        for index in (0, 3):
            self.assertEqual(CannotApply(index).index, index)

    def test_fields_are_given_by_name(self):
        self.assertEqual(SyntaxFault(line=2).line, 2)
        fault = SourceFault(label="b", reason="unknown label")
        self.assertEqual((fault.reason, fault.label), ("unknown label", "b"))
        self.assertEqual(CannotApply(index=4).index, 4)

    def test_objects_have_fields_of_their_own(self):
        first, second = SyntaxFault(1), SyntaxFault(2)
        self.assertEqual((first.line, second.line), (1, 2))

    def test_fields_are_kept_when_raised_and_caught_by_the_base(self):
        with self.assertRaises(WorkError) as caught:
            raise SourceFault("unreachable label", "c")
        self.assertEqual((caught.exception.reason, caught.exception.label), ("unreachable label", "c"))
        with self.assertRaises(ValueError) as caught:
            raise SyntaxFault(5)
        self.assertEqual(caught.exception.line, 5)


if __name__ == "__main__":
    unittest.main()
