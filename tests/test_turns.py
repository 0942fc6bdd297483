"""Turns one by one: what comes, what becomes of it, the page and the rights [2, 16, 17, 18].

Rows of pages are (CAME, TOOK, SPILLED, LET, PUMPED, LIES).
"""

import copy
import unittest

from builders import GREAT, QUIET, SHUT, WIDE, basin, coming_of, empty, house_of, line, mill, town
from sluiceway.turns import rights, start, turn


class Turns(unittest.TestCase):
    def assert_turn(self, house, state, flood, page, behind, at=0):
        handed = (house, state, at, flood)
        before = copy.deepcopy(handed)
        with self.subTest(house=house, state=state, at=at, flood=flood):
            self.assertEqual(turn(*handed), (page, behind))
            self.assertEqual(handed, before)

    def assert_rights(self, house, state, flood, told, at=0):
        handed = (house, state, at, flood)
        before = copy.deepcopy(handed)
        with self.subTest(house=house, state=state, at=at, flood=flood):
            self.assertEqual(rights(*handed), told)
            self.assertEqual(handed, before)


class FloodsAlone(Turns):
    def test_nothing(self):
        house = house_of(*line(), year=4)
        self.assert_turn(house, empty(house), (0,) * 5, ((0,) * 6,) * 5, empty(house))

    def test_a_mill_lets_all_by_whatever_its_most(self):
        for most in (0, 5, 9):
            house = house_of(mill("a", most=most))
            self.assert_turn(house, empty(house), (7,), ((7, 0, 0, 7, 0, 0),), empty(house))

    def test_a_town_takes_no_more_than_its_need(self):
        house = house_of(town("a", need=3))
        for flood, took in ((0, 0), (1, 1), (3, 3), (4, 3), (GREAT, 3)):
            self.assert_turn(house, empty(house), (flood,), ((flood, took, 0, flood - took, 0, 0),), empty(house))
        house = house_of(town("a", need=0))
        self.assert_turn(house, empty(house), (4,), ((4, 0, 0, 4, 0, 0),), empty(house))

    def test_a_shut_basin_fills_to_the_brim_and_spills(self):
        house = house_of(basin("a", brim=10, rule=SHUT))
        for lay, flood, spilled in ((0, 0, 0), (0, 10, 0), (4, 6, 0), (4, 7, 1), (10, 0, 0), (10, 5, 5), (0, 25, 15)):
            page = ((flood, 0, spilled, 0, 0, lay + flood - spilled),)
            self.assert_turn(house, start(house, (lay,)), (flood,), page, start(house, (lay + flood - spilled,)))

    def test_a_basin_without_room_spills_all(self):
        house = house_of(basin("a", brim=0, rule=SHUT))
        self.assert_turn(house, empty(house), (6,), ((6, 0, 6, 0, 0, 0),), empty(house))

    def test_to_each_place_its_own(self):
        house = house_of(mill("a"), town("b", need=3), basin("c", brim=4, rule=SHUT), mill("d"))
        page = ((1, 0, 0, 1, 0, 0), (5, 3, 0, 2, 0, 0), (9, 0, 5, 0, 0, 4), (2, 0, 0, 2, 0, 0))
        self.assert_turn(house, empty(house), (1, 5, 9, 2), page, start(house, (0, 0, 4, 0)))

    def test_forty_figures(self):
        house = house_of(town("a", "b", need=GREAT - 1), basin("b", brim=GREAT, rule=WIDE))
        page = ((GREAT, GREAT - 1, 0, 1, 0, 0), (GREAT + 1, 0, 0, 2 * GREAT + 1, 0, 0))
        self.assert_turn(house, start(house, (0, GREAT)), (GREAT, GREAT), page, empty(house))

    def test_it_is_of_tuples(self):
        house = house_of(*line(), year=4)
        told = turn(house, empty(house), 0, (9, 9, 9, 9, 9))
        page, state = told
        kinds = [type(thing) for thing in (told, page, state, state[0], state[1])]
        kinds += [type(row) for row in page] + [type(ahead) for ahead in state[1]]
        self.assertEqual(kinds, [tuple] * 15)
        self.assertEqual([len(row) for row in page], [6] * 5)
        self.assertEqual([len(ahead) for ahead in state[1]], [5] * 5)


class OnItsWay(Turns):
    def test_the_first_number_comes_now_and_the_others_move_up(self):
        house = house_of(mill("a"), basin("b", brim=99, rule=SHUT))
        state = ((0, 5), ((1, 2, 3, 4, 5), (10, 20, 30, 40, 50)))
        page = ((1, 0, 0, 1, 0, 0), (10, 0, 0, 0, 0, 15))
        self.assert_turn(house, state, (0, 0), page, ((0, 15), ((2, 3, 4, 5, 0), (20, 30, 40, 50, 0))))

    def test_beside_the_flood_and_the_river(self):
        house = house_of(mill("a", "b"), town("b", need=50))
        state = ((0, 0), ((1, 0, 0, 0, 7), (20, 0, 3, 0, 0)))
        page = ((5, 0, 0, 5, 0, 0), (125, 50, 0, 75, 0, 0))
        self.assert_turn(house, state, (4, 100), page, ((0, 0), ((0, 0, 0, 7, 0), (0, 3, 0, 0, 0))))


class Rivers(Turns):
    def assert_delays(self, source, row):
        """What a place lets, here 6 cubes, comes to the next place in so many turns; that one keeps it."""
        for delay in range(1, 6):
            house = house_of(source("a", "b", delay), basin("b", brim=99, rule=SHUT))
            ahead = [0] * 5
            ahead[delay - 1] = 6
            page, state = turn(house, empty(house), 0, (9, 1))
            self.assertEqual(page, (row, (1, 0, 0, 0, 0, 1)))
            self.assertEqual(state, ((row[5], 1), (QUIET, tuple(ahead))))

    def test_delays_of_mills_towns_and_basins(self):
        self.assert_delays(lambda name, down, delay: town(name, down, delay, 3), (9, 3, 0, 6, 0, 0))
        rule = ((0, ((2, 4, "river"),)),)
        self.assert_delays(lambda name, down, delay: basin(name, down, delay, 3, rule), (9, 0, 2, 4, 0, 3))
        self.assert_delays(lambda name, down, delay: basin(name, down, delay, 3, SHUT), (9, 0, 6, 0, 0, 3))
        house = house_of(mill("a", "b", 5), mill("b"))
        behind = ((0, 0), (QUIET, (0, 0, 0, 0, 4)))
        self.assert_turn(house, empty(house), (4, 0), ((4, 0, 0, 4, 0, 0), (0,) * 6), behind)

    def test_it_comes_when_its_turn_is_there(self):
        for delay in range(1, 6):
            house = house_of(mill("a", "b", delay), mill("b"))
            state = empty(house)
            came = []
            for number in range(7):
                page, state = turn(house, state, number, (8 if number == 0 else 0, 0))
                came.append(page[1][0])
            self.assertEqual(came, [8 if number == delay else 0 for number in range(7)])
            self.assertEqual(state, empty(house))

    def test_without_delay_it_comes_in_the_same_turn(self):
        house = house_of(mill("a", "c"), basin("b", "c", 0, 2, SHUT), basin("c", brim=99, rule=SHUT))
        page = ((5, 0, 0, 5, 0, 0), (6, 0, 4, 0, 0, 2), (10, 0, 0, 0, 0, 10))
        self.assert_turn(house, empty(house), (5, 6, 1), page, start(house, (0, 2, 10)))

    def test_to_the_sea_it_is_gone_whatever_the_delay(self):
        for delay in range(6):
            house = house_of(mill("a", "sea", delay), town("b", "sea", delay), basin("c", "sea", delay, 2, SHUT))
            page = ((5, 0, 0, 5, 0, 0), (5, 3, 0, 2, 0, 0), (5, 0, 3, 0, 0, 2))
            self.assert_turn(house, empty(house), (5, 5, 5), page, start(house, (0, 0, 2)))

    def test_it_is_added_to_what_is_on_its_way_already(self):
        house = house_of(mill("a", "c", 2), mill("b", "c", 2), mill("c"))
        state = ((0, 0, 0), coming_of(3, p2=(1, 2, 4, 8, 16)))
        page = ((100, 0, 0, 100, 0, 0), (30, 0, 0, 30, 0, 0), (1, 0, 0, 1, 0, 0))
        self.assert_turn(house, state, (100, 30, 0), page, ((0, 0, 0), coming_of(3, p2=(2, 134, 8, 16, 0))))


class Pumps(Turns):
    def test_delays_and_places_ahead_and_behind(self):
        rule = ((0, ((2, 3, "pump"),)),)
        for delay in range(1, 6):
            for to, number in (("a", 0), ("c", 2), ("d", 3)):
                house = house_of(
                    mill("a"), basin("b", "c", 0, 50, rule, (to, delay, 3)), basin("c", brim=9, rule=SHUT), town("d"),
                )
                ahead = [0] * 5
                ahead[delay - 1] = 3
                page = ((0,) * 6, (8, 0, 0, 0, 3, 5), (0,) * 6, (0,) * 6)
                behind = ((0, 5, 0, 0), coming_of(4, **{f"p{number}": tuple(ahead)}))
                self.assert_turn(house, empty(house), (0, 8, 0, 0), page, behind)

    def test_pumped_water_goes_its_whole_way(self):
        rule = ((0, ((0, 4, "pump"),)),)
        for delay in range(1, 6):
            house = house_of(mill("a", "b", 5), basin("b", "sea", 0, 9, rule, ("a", delay, 4)))
            state = start(house, (0, 4))
            came = []
            for number in range(delay + 1):
                page, state = turn(house, state, number, (0, 0))
                came.append(page[0][0])
            self.assertEqual(came, [0] * delay + [4])
            self.assertEqual(state, ((0, 0), (QUIET, (0, 0, 0, 0, 4))))

    def test_two_pumps_to_one_place_and_a_river_there(self):
        pumped = ((0, ((0, 4, "pump"),)),)
        house = house_of(
            basin("a", "d", 1, 2, pumped, ("d", 1, 4)), basin("b", "sea", 0, 9, pumped, ("d", 2, 4)),
            mill("c"), mill("d"),
        )
        page = ((9, 0, 3, 0, 4, 2), (3, 0, 0, 0, 3, 0), (0,) * 6, (0,) * 6)
        self.assert_turn(house, empty(house), (9, 3, 0, 0), page, ((2, 0, 0, 0), coming_of(4, p3=(7, 3, 0, 0, 0))))

    def test_a_pump_without_a_step_pumps_nothing(self):
        house = house_of(basin("a", "sea", 0, 9, WIDE, ("b", 1, 4)), mill("b"))
        self.assert_turn(house, empty(house), (9, 0), ((9, 0, 0, 9, 0, 0), (0,) * 6), empty(house))


class Basins(Turns):
    RULE = ((0, ((3, 2, "river"), (5, 1, "pump"), (8, 4, "river"))), (2, ((0, 5, "pump"),)), (3, ()))

    def test_every_season_and_turns_beyond_the_year(self):
        house = house_of(basin("a", "sea", 0, 7, self.RULE, ("b", 1, 5)), mill("b"), year=5)
        spring = {(1, 4): (4, 0, 0, 2, 0, 3), (2, 10): (10, 0, 0, 6, 1, 5), (7, 13): (13, 0, 6, 6, 1, 7)}
        summer = {(1, 4): (4, 0, 0, 0, 5, 0), (2, 10): (10, 0, 0, 0, 5, 7), (7, 13): (13, 0, 8, 0, 5, 7)}
        winter = {(1, 4): (4, 0, 0, 0, 0, 5), (2, 10): (10, 0, 5, 0, 0, 7), (7, 13): (13, 0, 13, 0, 0, 7)}
        for year_turn, rows in enumerate((spring, spring, summer, winter, winter)):
            for at in (year_turn, year_turn + 5, year_turn + 10, year_turn + 5 * 10 ** 30):
                for (lay, flood), row in rows.items():
                    behind = ((row[5], 0), (QUIET, (row[4], 0, 0, 0, 0)))
                    self.assert_turn(house, start(house, (lay, 0)), (flood, 0), (row, (0,) * 6), behind, at)

    def test_a_year_of_one_turn(self):
        house = house_of(basin("a", brim=9, rule=((0, ((2, 3, "river"),)),)))
        for at in (0, 1, 2, 24, 199):
            self.assert_turn(house, start(house, (1,)), (3,), ((3, 0, 0, 2, 0, 2),), start(house, (2,)), at)

    def test_cubes_above_the_brim_that_stand_in_a_step_go_by_its_way(self):
        rule = ((0, ((12, 3, "pump"), (15, 2, "river"))),)
        house = house_of(basin("a", "b", 0, 10, rule, ("b", 1, 3)), mill("b"))
        page = ((20, 0, 5, 2, 3, 10), (7, 0, 0, 7, 0, 0))
        self.assert_turn(house, empty(house), (20, 0), page, ((10, 0), coming_of(2, p1=(3, 0, 0, 0, 0))))

    def test_spilled_only_what_is_left_above_the_brim(self):
        house = house_of(basin("a", brim=10, rule=((0, ((0, 4, "river"),)),)))
        self.assert_turn(house, start(house, (8,)), (6,), ((6, 0, 0, 4, 0, 10),), start(house, (10,)))
        self.assert_turn(house, start(house, (8,)), (7,), ((7, 0, 1, 4, 0, 10),), start(house, (10,)))

    def test_all_goes_down_one_river(self):
        house = house_of(basin("a", "b", 0, 4, ((0, ((0, 3, "river"),)),)), town("b", need=5))
        page = ((10, 0, 3, 3, 0, 4), (6, 5, 0, 1, 0, 0))
        self.assert_turn(house, empty(house), (10, 0), page, start(house, (4, 0)))

    def test_several_one_below_the_other_without_delay(self):
        half = ((0, ((0, 3, "river"), (6, 2, "river"))),)
        house = house_of(
            basin("a", "b", 0, 4, half), basin("b", "c", 0, 4, half), basin("c", "d", 0, 4, half),
            basin("d", brim=4, rule=SHUT),
        )
        page = ((12, 0, 3, 5, 0, 4), (8, 0, 1, 5, 0, 4), (7, 0, 0, 5, 0, 4), (5, 0, 2, 0, 0, 4))
        state = start(house, (0, 2, 2, 1))
        self.assert_turn(house, state, (12, 0, 1, 0), page, start(house, (4, 4, 4, 4)))

    def test_a_basin_told_late_and_one_told_early_into_the_same(self):
        lower = basin("d", brim=99, rule=SHUT)
        house = house_of(basin("a", "d", 0, 1, SHUT), mill("b"), basin("c", "d", 0, 2, SHUT), lower)
        page = ((4, 0, 3, 0, 0, 1), (0,) * 6, (9, 0, 7, 0, 0, 2), (10, 0, 0, 0, 0, 10))
        self.assert_turn(house, empty(house), (4, 0, 9, 0), page, start(house, (1, 0, 2, 10)))


class Reaches(Turns):
    def test_towns_and_mills_in_one_reach(self):
        house = house_of(town("a", "b", 0, 4, 2), mill("b", "c"), town("c", "sea", 0, 4, 1))
        page = ((5, 1, 0, 4, 0, 0), (4, 0, 0, 4, 0, 0), (4, 4, 0, 0, 0, 0))
        self.assert_turn(house, empty(house), (5, 0, 0), page, empty(house))
        self.assert_rights(house, empty(house), (5, 0, 0), [2, None, None])

    def test_ranks_alike_go_by_the_places(self):
        house = house_of(town("a", "b", 0, 4, 1), town("b", "sea", 0, 4, 1))
        self.assert_turn(house, empty(house), (5, 0), ((5, 4, 0, 1, 0, 0), (1, 1, 0, 0, 0, 0)), empty(house))
        self.assert_rights(house, empty(house), (5, 0), [None, 1])

    def test_a_delay_ends_a_reach(self):
        for delay in range(1, 6):
            house = house_of(town("a", "b", delay, 4, 2), town("b", "sea", 0, 4, 1))
            ahead = [0] * 5
            ahead[delay - 1] = 1
            page = ((5, 4, 0, 1, 0, 0), (0,) * 6)
            self.assert_turn(house, empty(house), (5, 0), page, ((0, 0), (QUIET, tuple(ahead))))
            self.assert_rights(house, empty(house), (5, 0), [None, 1])

    def test_a_basin_ends_a_reach_above_it_and_below_it(self):
        house = house_of(
            town("a", "b", 0, 4, 9), town("b", "c", 0, 3, 8), basin("c", "d", 0, 2, SHUT), town("d", "e", 0, 5, 7),
            town("e", "sea", 0, 5, 0),
        )
        page = ((9, 4, 0, 5, 0, 0), (5, 3, 0, 2, 0, 0), (4, 0, 3, 0, 0, 2), (3, 0, 0, 3, 0, 0), (3, 3, 0, 0, 0, 0))
        state = start(house, (0, 0, 1, 0, 0))
        self.assert_turn(house, state, (9, 0, 2, 0, 0), page, start(house, (0, 0, 2, 0, 0)))
        self.assert_rights(house, state, (9, 0, 2, 0, 0), [None, None, None, 4, 4])
        self.assert_rights(house, state, (5, 0, 0, 0, 0), [1, None, None, 3, 4])

    def test_the_sea_ends_a_reach(self):
        house = house_of(town("a", "sea", 0, 4, 9), town("b", "sea", 0, 4, 0))
        self.assert_turn(house, empty(house), (6, 1), ((6, 4, 0, 2, 0, 0), (1, 1, 0, 0, 0, 0)), empty(house))
        self.assert_rights(house, empty(house), (6, 1), [None, 1])

    def test_two_reaches_woven_into_one_another(self):
        house = house_of(
            town("a", "c", 0, 5, 2), town("b", "d", 0, 5, 1), town("c", "sea", 0, 5, 1), town("d", "sea", 0, 5, 2),
        )
        page = ((6, 1, 0, 5, 0, 0), (6, 5, 0, 1, 0, 0), (5, 5, 0, 0, 0, 0), (1, 1, 0, 0, 0, 0))
        self.assert_turn(house, empty(house), (6, 6, 0, 0), page, empty(house))
        self.assert_rights(house, empty(house), (6, 6, 0, 0), [2, None, None, 3])

    def test_two_reaches_one_below_the_other_by_a_basin(self):
        house = house_of(town("a", "b", 0, 1, 5), basin("b", "c", 0, 0, SHUT), town("c", "sea", 0, 9, 0))
        page = ((4, 1, 0, 3, 0, 0), (3, 0, 3, 0, 0, 0), (3, 3, 0, 0, 0, 0))
        self.assert_turn(house, empty(house), (4, 0, 0), page, empty(house))
        self.assert_rights(house, empty(house), (4, 0, 0), [None, None, 2])

    def test_a_basin_told_between_two_places_of_a_reach_flows_into_the_lower_one(self):
        house = house_of(town("a", "c", 0, 5, 2), basin("b", "c", 0, 1, SHUT), town("c", "sea", 0, 5, 1))
        page = ((5, 3, 0, 2, 0, 0), (4, 0, 3, 0, 0, 1), (5, 5, 0, 0, 0, 0))
        self.assert_turn(house, empty(house), (5, 4, 0), page, start(house, (0, 1, 0)))
        self.assert_rights(house, empty(house), (5, 4, 0), [2, None, None])

    def test_a_reach_above_a_basin_above_a_reach_that_began_ahead(self):
        house = house_of(
            town("a", "e", 0, 9, 1), town("b", "c", 0, 2, 1), mill("c", "d"), basin("d", "e", 0, 0, SHUT),
            town("e", "sea", 0, 9, 0),
        )
        page = ((5, 1, 0, 4, 0, 0), (7, 2, 0, 5, 0, 0), (5, 0, 0, 5, 0, 0), (5, 0, 5, 0, 0, 0), (9, 9, 0, 0, 0, 0))
        self.assert_turn(house, empty(house), (5, 7, 0, 0, 0), page, empty(house))
        self.assert_rights(house, empty(house), (5, 7, 0, 0, 0), [4, None, None, None, None])

    def test_water_on_its_way_and_from_delayed_rivers_is_shared_too(self):
        house = house_of(mill("a", "b", 1), town("b", "c", 0, 3, 1), town("c", "sea", 0, 3, 0))
        state = ((0, 0, 0), coming_of(3, p1=(4, 0, 0, 0, 0)))
        page = ((9, 0, 0, 9, 0, 0), (5, 2, 0, 3, 0, 0), (3, 3, 0, 0, 0, 0))
        self.assert_turn(house, state, (9, 1, 0), page, ((0, 0, 0), coming_of(3, p1=(9, 0, 0, 0, 0))))
        self.assert_rights(house, state, (9, 1, 0), [None, 2, None])

    def test_many_places_into_one(self):
        house = house_of(
            town("a", "d", 0, 2, 1), town("b", "d", 0, 2, 1), mill("c", "d"), town("d", "e", 0, 4, 0), mill("e"),
        )
        page = ((2, 1, 0, 1, 0, 0), (2, 0, 0, 2, 0, 0), (1, 0, 0, 1, 0, 0), (4, 4, 0, 0, 0, 0), (0,) * 6)
        self.assert_turn(house, empty(house), (2, 2, 1, 0, 0), page, empty(house))
        self.assert_rights(house, empty(house), (2, 2, 1, 0, 0), [3, 3, None, None, None])

    def test_what_leaves_a_reach_is_on_its_way_once(self):
        house = house_of(mill("a", "c"), mill("b", "c"), mill("c", "d", 2), mill("d"))
        page = ((1, 0, 0, 1, 0, 0), (2, 0, 0, 2, 0, 0), (7, 0, 0, 7, 0, 0), (0,) * 6)
        self.assert_turn(house, empty(house), (1, 2, 4, 0), page, ((0,) * 4, coming_of(4, p3=(0, 7, 0, 0, 0))))


class Rights(Turns):
    def test_none_where_all_needs_are_met_or_0(self):
        house = house_of(town("a", "b", 0, 2, 1), mill("b", "c"), basin("c", "d", 0, 1, SHUT), town("d", need=0))
        self.assert_rights(house, empty(house), (2, 0, 0, 0), [None] * 4)

    def test_places_of_the_house_are_told_not_rows_of_the_reach(self):
        house = house_of(
            basin("a", "c", 0, 3, SHUT), mill("b"), town("c", "e", 0, 2, 1), basin("d", rule=SHUT),
            town("e", need=2, rank=0),
        )
        self.assert_rights(house, empty(house), (5, 0, 0, 0, 0), [None, None, 4, None, None])
        self.assert_rights(house, empty(house), (4, 0, 0, 0, 0), [None, None, 4, None, 4])
        self.assert_rights(house, empty(house), (3, 0, 0, 0, 0), [None, None, 2, None, 4])

    def test_mills_and_basins_have_none(self):
        house = house_of(mill("a", "b"), basin("b", rule=SHUT))
        self.assert_rights(house, empty(house), (0, 0), [None, None])

    def test_the_turn_of_the_year_counts(self):
        house = house_of(basin("a", "b", 0, 9, ((0, ()), (1, ((0, 9, "river"),)))), town("b", need=4), year=2)
        state = start(house, (5, 0))
        for at in (0, 2, 4):
            self.assert_rights(house, state, (0, 0), [None, 1], at)
        for at in (1, 3, 5):
            self.assert_rights(house, state, (0, 0), [None, None], at)

    def test_the_list_is_new_and_the_askers_own(self):
        house = house_of(town("a", "b", 0, 4, 2), town("b", "sea", 0, 4, 1))
        first = rights(house, empty(house), 0, (5, 0))
        self.assertIsInstance(first, list)
        first[0] = 99
        first.append(7)
        self.assertEqual(rights(house, empty(house), 0, (5, 0)), [1, None])


if __name__ == "__main__":
    unittest.main()
