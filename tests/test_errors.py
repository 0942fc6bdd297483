"""The refusals and their fields [2, interface]."""

import unittest

from sluiceway import errors

PLAIN_ONES = ["NoHouse", "NoAsk", "NoBounds", "NoRow"]
FIELDS = {
    "NoName": "place",
    "NoRiver": "place",
    "NoNumber": "place",
    "NoPump": "place",
    "NoRule": "place",
    "NoLevel": "place",
    "NoText": "row",
    "TooLong": "most",
    "NoWay": "node",
}
ALL = PLAIN_ONES + list(FIELDS)


def made(name):
    return getattr(errors, name)(3) if name in FIELDS else getattr(errors, name)("words")


class Classes(unittest.TestCase):
    def test_there_are_thirteen_and_the_base(self):
        held = [name for name, thing in vars(errors).items() if isinstance(thing, type)]
        self.assertEqual(sorted(held), sorted(ALL + ["WaterError"]))
        self.assertEqual(len(ALL), 13)

    def test_the_base_stands_straight_under_value_error(self):
        self.assertEqual(errors.WaterError.__bases__, (ValueError,))

    def test_each_stands_straight_under_the_base(self):
        for name in ALL:
            with self.subTest(name):
                self.assertEqual(getattr(errors, name).__bases__, (errors.WaterError,))

    def test_each_is_taken_by_its_own_class_the_base_and_value_error(self):
        for name in ALL:
            for taker in (getattr(errors, name), errors.WaterError, ValueError):
                with self.subTest(name, taker=taker), self.assertRaises(taker):
                    raise made(name)

    def test_none_is_taken_by_another_ones_class(self):
        for name in ALL:
            for other in ALL:
                if other != name:
                    with self.subTest(name, other=other):
                        self.assertNotIsInstance(made(name), getattr(errors, other))


class Fields(unittest.TestCase):
    def test_the_field_is_set_when_the_refusal_is_made(self):
        for name, field in FIELDS.items():
            with self.subTest(name):
                self.assertEqual(getattr(made(name), field), 3)

    def test_the_place_of_a_name_may_be_none(self):
        self.assertIsNone(errors.NoName(None).place)

    def test_two_refusals_keep_their_own_fields(self):
        first = errors.NoRule(1)
        second = errors.NoRule(2)
        self.assertEqual((first.place, second.place), (1, 2))

    def test_each_has_words(self):
        for name in ALL:
            with self.subTest(name):
                self.assertNotEqual(str(made(name)), "")


if __name__ == "__main__":
    unittest.main()
