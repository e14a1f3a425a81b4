import unittest

from slipdesk.errors import DeskError, NoThing


class ErrorsTest(unittest.TestCase):
    def test_desk_error_is_a_value_error_of_its_own(self):
        self.assertTrue(issubclass(DeskError, ValueError))
        self.assertIsNot(DeskError, ValueError)

    def test_no_thing_is_a_desk_error_of_its_own(self):
        self.assertTrue(issubclass(NoThing, DeskError))
        self.assertIsNot(NoThing, DeskError)

    def test_taken_by_each_of_its_names(self):
        for name in (NoThing, DeskError, ValueError):
            with self.assertRaises(name):
                raise NoThing("pen")

    def test_no_other_refusal_is_taken_as_no_thing(self):
        self.assertNotIsInstance(DeskError("pen"), NoThing)


if __name__ == "__main__":
    unittest.main()
