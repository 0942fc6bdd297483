"""Names [4], and how places are found by them."""

import unittest

from builders import basin, forest, line, mill, town
from sluiceway.errors import NoName
from sluiceway.houses import checked, down_of, is_name, number_of

LETTERS = "abcdefghijklmnopqrstuvwxyz"
OTHER_SIGNS = [chr(number) for number in range(128) if chr(number) not in LETTERS]


class IsName(unittest.TestCase):
    def assert_names(self, texts, told):
        for text in texts:
            with self.subTest(text):
                self.assertIs(is_name(text), told)

    def test_each_letter_alone(self):
        self.assert_names(LETTERS, True)

    def test_lengths(self):
        self.assert_names([LETTERS[:many] for many in range(1, 9)], True)
        self.assert_names(["zzzzzzzz", "abcdefgh"], True)
        self.assert_names(["", "abcdefghi", "zzzzzzzzz", LETTERS, "a" * 1000], False)

    def test_the_sea_is_none_but_names_around_it_are(self):
        self.assert_names(["sea"], False)
        self.assert_names(["seas", "seaa", "seasea", "seaside", "asea", "se", "ea", "s", "sae", "aes"], True)

    def test_other_signs_at_the_first_a_middle_and_the_last_place(self):
        for sign in OTHER_SIGNS:
            self.assert_names([sign, sign + "bcd", "ab" + sign + "d", "abc" + sign], False)
            self.assert_names([sign + "sea", "sea" + sign, "abcdefg" + sign], False)

    def test_great_letters(self):
        self.assert_names(["A", "Abc", "aBc", "abC", "ABC", "Sea", "SEA"], False)


class NumberOf(unittest.TestCase):
    def test_each_place_by_its_name(self):
        house = checked((4, tuple(line())))
        for number, name in enumerate(["alder", "birch", "cedar", "dill", "elm"]):
            with self.subTest(name):
                self.assertEqual(number_of(house, name), number)

    def test_twelve_names_alike_but_for_one_letter(self):
        house = checked((1, forest(12)))
        for number, place in enumerate(house[1]):
            with self.subTest(place[1]):
                self.assertEqual(number_of(house, place[1]), number)

    def test_names_that_begin_or_end_alike(self):
        house = checked((1, (mill("ab"), mill("a"), mill("abc"), mill("b"), mill("bab"), mill("seas"))))
        for number, name in enumerate(["ab", "a", "abc", "b", "bab", "seas"]):
            with self.subTest(name):
                self.assertEqual(number_of(house, name), number)

    def test_names_that_no_place_bears(self):
        house = checked((4, tuple(line())))
        for name in ["sea", "fir", "alde", "alderr", "lder", "Alder", "", " elm", "elm\n", "basin"]:
            with self.subTest(name):
                with self.assertRaises(NoName) as caught:
                    number_of(house, name)
                self.assertIsNone(caught.exception.place)


class DownOf(unittest.TestCase):
    def test_each_place_of_a_house(self):
        house = checked((4, tuple(line())))
        told = [down_of(house, number) for number in range(5)]
        self.assertEqual(told, [1, 2, 4, 4, None])

    def test_a_row_of_twelve(self):
        house = checked((4, forest(12)))
        told = [down_of(house, number) for number in range(12)]
        self.assertEqual(told, [1, 2, 3, 4, 5, 6, 7, 8, 9, 10, 11, None])

    def test_rivers_to_the_sea_from_the_first_a_middle_and_the_last_place(self):
        house = checked((1, (basin("ab"), town("aa", "ac"), mill("ba"), mill("ac", "ca", 5), town("ca", "sea", 5))))
        told = [down_of(house, number) for number in range(5)]
        self.assertEqual(told, [None, 3, None, 4, None])

    def test_the_pump_is_no_river(self):
        house = checked((1, (mill("a"), basin("b", pump=("a", 1, 1)), mill("c"))))
        self.assertIsNone(down_of(house, 1))


if __name__ == "__main__":
    unittest.main()
