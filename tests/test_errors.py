import unittest

from folderkin import errors
from folderkin.errors import (
    FolderkinError, InvalidBlock, InvalidBytes, InvalidPattern, InvalidScript, PowerCut)

KINDS = [PowerCut, InvalidBlock, InvalidPattern, InvalidBytes, InvalidScript]


class Errors(unittest.TestCase):
    def test_base_class_is_a_value_error(self):
        self.assertEqual(FolderkinError.__bases__, (ValueError,))
        self.assertEqual(FolderkinError(7).place, 7)

    def test_each_kind_derives_from_the_base_class_alone(self):
        for kind in KINDS:
            self.assertEqual(kind.__bases__, (FolderkinError,), kind)

    def test_each_kind_has_its_place(self):
        for kind in KINDS:
            for place in (0, 3, 10 ** 12):
                self.assertEqual(kind(place).place, place)
                with self.assertRaises(FolderkinError) as caught:
                    raise kind(place)
                self.assertEqual(caught.exception.place, place)

    def test_a_place_belongs_to_one_error(self):
        first, second = PowerCut(1), PowerCut(2)
        self.assertEqual((first.place, second.place), (1, 2))

    def test_no_kind_is_caught_as_another_one(self):
        for kind in KINDS:
            for other in KINDS:
                self.assertEqual(isinstance(kind(0), other), kind is other)

    def test_there_are_no_other_kinds(self):
        found = [value for value in vars(errors).values() if isinstance(value, type)]
        self.assertEqual(set(found), {FolderkinError, *KINDS})
