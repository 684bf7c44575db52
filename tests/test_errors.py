"""What [p2] and the interface say of the errors."""

import unittest

from pagewake import errors


class ErrorsTest(unittest.TestCase):
    def test_program_fault_is_below_page_fault_and_that_below_value_error(self):
        self.assertTrue(issubclass(errors.ProgramFault, errors.PageFault))
        self.assertTrue(issubclass(errors.PageFault, ValueError))
        self.assertIsNot(errors.ProgramFault, errors.PageFault)
        self.assertIsNot(errors.PageFault, ValueError)

    def test_fields_are_those_that_it_was_made_of_by_place(self):
        fault = errors.ProgramFault(3, (1, 0, 2), "too deep")
        self.assertEqual(fault.component, 3)
        self.assertEqual(fault.place, (1, 0, 2))
        self.assertEqual(fault.reason, "too deep")
        self.assertIsInstance(str(fault), str)

    def test_fields_belong_to_each_error_alone(self):
        first = errors.ProgramFault(0, (), "too many templates")
        second = errors.ProgramFault(-1, (2,), "part has no place")
        self.assertEqual((first.component, first.place, first.reason), (0, (), "too many templates"))
        self.assertEqual((second.component, second.place, second.reason), (-1, (2,), "part has no place"))

    def test_it_is_caught_by_each_of_its_bases(self):
        for base in (errors.ProgramFault, errors.PageFault, ValueError):
            with self.assertRaises(base):
                raise errors.ProgramFault(1, (0,), "unknown component")


if __name__ == "__main__":
    unittest.main()
