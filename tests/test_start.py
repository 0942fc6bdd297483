"""States, and the state at the start [2, 15]."""

import unittest

from builders import GREAT, QUIET, basin, forest, line, mill, raised, town
from sluiceway.errors import NoLevel
from sluiceway.houses import checked
from sluiceway.turns import start

# Two basins with brims of 100 at places 0 and 2, one of 40 at place 4; a town at 1, a mill at 3.
HOUSE = checked((4, tuple(line()[:4] + [basin("elm", brim=40)])))


class Start(unittest.TestCase):
    def assert_started(self, house, levels):
        with self.subTest(levels=levels):
            self.assertEqual(start(house, levels), (levels, (QUIET,) * len(levels)))

    def assert_no_level(self, place, levels, house=HOUSE):
        with self.subTest(levels=levels):
            self.assertEqual(raised(start, house, levels), (NoLevel, [place]))

    def test_levels_at_0_at_the_brim_and_between(self):
        for first in (0, 1, 57, 99, 100):
            for second in (0, 100):
                for third in (0, 1, 39, 40):
                    self.assert_started(HOUSE, (first, 0, second, 0, third))

    def test_it_is_of_tuples(self):
        levels, coming = start(HOUSE, (1, 0, 2, 0, 3))
        self.assertEqual([type(levels), type(coming)] + [type(ahead) for ahead in coming], [tuple] * 7)

    def test_one_place_of_each_kind(self):
        self.assert_started((1, (basin("a", brim=0),)), (0,))
        self.assert_started((1, (basin("a", brim=GREAT),)), (GREAT,))
        self.assert_started((1, (town("a"),)), (0,))
        self.assert_started((1, (mill("a"),)), (0,))

    def test_twelve_places(self):
        self.assert_started((1, forest(12)), (0,) * 12)

    def test_levels_below_0(self):
        for level in (-1, -2, -GREAT):
            for place in range(5):
                levels = [0] * 5
                levels[place] = level
                self.assert_no_level(place, tuple(levels))

    def test_levels_above_a_brim(self):
        self.assert_no_level(0, (101, 0, 0, 0, 0))
        self.assert_no_level(0, (GREAT, 0, 100, 0, 40))
        self.assert_no_level(2, (100, 0, 101, 0, 40))
        self.assert_no_level(4, (100, 0, 100, 0, 41))
        self.assert_no_level(0, (1,), (1, (basin("a", brim=0),)))

    def test_levels_that_are_not_0_at_towns_and_mills(self):
        for level in (1, 2, 3, 7, GREAT):
            self.assert_no_level(1, (0, level, 0, 0, 0))
            self.assert_no_level(3, (0, 0, 0, level, 0))
            self.assert_no_level(0, (level,), (1, (town("a", need=GREAT),)))
            self.assert_no_level(0, (level,), (1, (mill("a", most=GREAT),)))

    def test_the_first_such_place_is_told(self):
        bad = (101, 1, -1, -1, 41)
        good = (100, 0, 0, 0, 40)
        for first in range(5):
            self.assert_no_level(first, good[:first] + bad[first:])
            for second in range(first + 1, 5):
                levels = list(good)
                levels[first] = bad[first]
                levels[second] = bad[second]
                self.assert_no_level(first, tuple(levels))


if __name__ == "__main__":
    unittest.main()
