import unittest

from doorkeys import errors

NAMES = (
    "InvalidHouse", "InvalidTick", "UnknownPerson", "InvalidLimit", "DifferentHouses", "InvalidWaiting",
    "Contradiction", "TextFault", "InvalidCode", "InvalidName", "UnknownName", "InvalidOperation",
)


class ErrorsTest(unittest.TestCase):
    def test_base_class_is_a_value_error(self):
        self.assertEqual(errors.HouseError.__bases__, (ValueError,))

    def test_all_others_are_direct_subclasses(self):
        for name in NAMES:
            with self.subTest(name=name):
                self.assertEqual(getattr(errors, name).__bases__, (errors.HouseError,))
                self.assertEqual(getattr(errors, name).__module__, "doorkeys.errors")

    def test_attributes_are_set_when_created(self):
        fault = errors.InvalidHouse("careful", 2)
        self.assertEqual((fault.part, fault.index), ("careful", 2))
        self.assertEqual(errors.TextFault(3).line, 3)
        self.assertEqual(errors.InvalidCode(4).place, 4)
        self.assertEqual(errors.InvalidOperation(5).place, 5)


if __name__ == "__main__":
    unittest.main()
