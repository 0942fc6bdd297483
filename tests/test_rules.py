"""Which stairs hold at a turn of the year [7], and what stairs open [8]."""

import copy
import unittest

from builders import GREAT, opened_by_cubes
from sluiceway.rules import opened, stairs_at

WINTER = ((3, 2, "river"),)
SPRING = ((0, 9, "pump"), (9, 1, "river"))
SUMMER = ()
AUTUMN = ((7, 7, "pump"),)


class StairsAt(unittest.TestCase):
    def assert_year(self, rule, expected):
        before = copy.deepcopy(rule)
        told = [stairs_at(rule, turn) for turn in range(len(expected))]
        self.assertEqual(told, expected)
        self.assertEqual(rule, before)

    def test_one_season(self):
        for year in range(1, 25):
            self.assert_year(((0, WINTER),), [WINTER] * year)
        self.assert_year(((0, ()),), [()] * 24)

    def test_two_seasons(self):
        for first in range(1, 24):
            expected = [WINTER] * first + [SPRING] * (24 - first)
            self.assert_year(((0, WINTER), (first, SPRING)), expected)

    def test_several_seasons(self):
        rule = ((0, WINTER), (2, SPRING), (3, SUMMER), (7, AUTUMN))
        self.assert_year(rule, [WINTER] * 2 + [SPRING] + [SUMMER] * 4 + [AUTUMN] * 5)

    def test_a_season_without_steps_ends_the_one_ahead(self):
        self.assert_year(((0, WINTER), (1, ()), (2, WINTER)), [WINTER, (), WINTER])

    def test_a_season_from_the_last_turn_alone(self):
        self.assert_year(((0, WINTER), (23, AUTUMN)), [WINTER] * 23 + [AUTUMN])

    def test_a_season_for_each_turn(self):
        stairs = [((turn, turn + 1, "river"),) for turn in range(24)]
        self.assert_year(tuple(enumerate(stairs)), stairs)


class Opened(unittest.TestCase):
    def assert_opened(self, stairs, expected):
        before = copy.deepcopy(stairs)
        for water, told in expected.items():
            with self.subTest(stairs=stairs, water=water):
                self.assertEqual(opened(stairs, water), told)
                self.assertEqual(sum(told), water)
        self.assertEqual(stairs, before)

    def test_it_is_a_tuple(self):
        self.assertIsInstance(opened((), 0), tuple)

    def test_no_steps(self):
        self.assert_opened((), {0: (0, 0, 0), 1: (0, 0, 1), 99: (0, 0, 99), GREAT: (0, 0, GREAT)})

    def test_no_water(self):
        self.assert_opened(((0, 5, "river"), (5, 5, "pump")), {0: (0, 0, 0)})

    def test_one_step_by_the_river(self):
        self.assert_opened(((10, 5, "river"),), {
            0: (0, 0, 0), 9: (0, 0, 9), 10: (0, 0, 10), 11: (1, 0, 10), 12: (2, 0, 10),
            14: (4, 0, 10), 15: (5, 0, 10), 16: (5, 0, 11), 99: (5, 0, 94),
        })

    def test_one_step_by_the_pump(self):
        self.assert_opened(((10, 5, "pump"),), {
            0: (0, 0, 0), 9: (0, 0, 9), 10: (0, 0, 10), 11: (0, 1, 10), 12: (0, 2, 10),
            14: (0, 4, 10), 15: (0, 5, 10), 16: (0, 5, 11), 99: (0, 5, 94),
        })

    def test_a_step_of_one_cube_from_height_0(self):
        self.assert_opened(((0, 1, "river"),), {0: (0, 0, 0), 1: (1, 0, 0), 2: (1, 0, 1)})
        self.assert_opened(((0, 1, "pump"),), {0: (0, 0, 0), 1: (0, 1, 0), 2: (0, 1, 1)})

    def test_steps_apart_and_steps_that_touch(self):
        self.assert_opened(((2, 3, "river"), (5, 2, "pump"), (10, 1, "river"), (20, 4, "pump")), {
            0: (0, 0, 0), 1: (0, 0, 1), 2: (0, 0, 2), 3: (1, 0, 2), 4: (2, 0, 2), 5: (3, 0, 2),
            6: (3, 1, 2), 7: (3, 2, 2), 8: (3, 2, 3), 9: (3, 2, 4), 10: (3, 2, 5), 11: (4, 2, 5),
            12: (4, 2, 6), 19: (4, 2, 13), 20: (4, 2, 14), 21: (4, 3, 14), 23: (4, 5, 14),
            24: (4, 6, 14), 25: (4, 6, 15), 100: (4, 6, 90),
        })

    def test_numbers_of_forty_figures(self):
        self.assert_opened(((GREAT, GREAT, "river"), (2 * GREAT, GREAT, "pump")), {
            0: (0, 0, 0),
            GREAT - 1: (0, 0, GREAT - 1),
            GREAT: (0, 0, GREAT),
            GREAT + 1: (1, 0, GREAT),
            2 * GREAT - 1: (GREAT - 1, 0, GREAT),
            2 * GREAT: (GREAT, 0, GREAT),
            2 * GREAT + 1: (GREAT, 1, GREAT),
            3 * GREAT - 1: (GREAT, GREAT - 1, GREAT),
            3 * GREAT: (GREAT, GREAT, GREAT),
            3 * GREAT + 1: (GREAT, GREAT, GREAT + 1),
        })

    def test_a_small_step_within_much_water(self):
        self.assert_opened(((10 ** 39, 1, "pump"),), {
            10 ** 39: (0, 0, 10 ** 39), 10 ** 39 + 1: (0, 1, 10 ** 39), GREAT: (0, 1, GREAT - 1),
        })

    def test_as_cube_by_cube(self):
        forty = tuple([(3 * step, 1 + step % 3, ("river", "pump")[step % 2]) for step in range(40)])
        for stairs in ((), WINTER, SPRING, AUTUMN, SPRING + ((15, 2, "pump"), (17, 3, "river")), forty):
            for water in range(130):
                with self.subTest(stairs=stairs, water=water):
                    self.assertEqual(opened(stairs, water), opened_by_cubes(stairs, water))


if __name__ == "__main__":
    unittest.main()
