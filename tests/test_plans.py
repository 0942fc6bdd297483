"""What pages earn, and plans with their prices [2, 3, 22, 30 to 32].

Rows of pages are (CAME, TOOK, SPILLED, LET, PUMPED, LIES).
"""

import copy
import random
import unittest

from builders import (
    GREAT, QUIET, SHUT, WIDE, basin, coming_of, earned_of, empty, house_of, is_planned, line, mill, one_more,
    planned_pages, raised_cubes, random_cubes, random_house, random_plan, random_run, town, with_other_rules,
)
from sluiceway.houses import checked
from sluiceway.plans import earned, plan
from sluiceway.turns import run, start

NOTHING = (0,) * 6


def took(cubes):
    return (cubes, cubes, 0, 0, 0, 0)


def let(cubes):
    return (cubes, 0, 0, cubes, 0, 0)


def kept(cubes, came=0):
    return (came, 0, 0, 0, 0, cubes)


class Earned(unittest.TestCase):
    HOUSE = house_of(basin("a", "b", 0, 9, pump=("c", 1, 5)), town("b", "c", 0, 5), mill("c", "sea", 0, 4))

    def assert_earned(self, pages, pays, left, told, house=None):
        handed = (house or self.HOUSE, pages, pays, left)
        before = copy.deepcopy(handed)
        with self.subTest(pages=pages, pays=pays, left=left):
            answer = earned(*handed)
            self.assertEqual((answer, type(answer)), (told, int))
            self.assertEqual(repr(handed), repr(before))

    def test_no_pages(self):
        self.assert_earned([], [], (0, 0, 0), 0)
        self.assert_earned([], [], (5, 5, 5), 0)

    def test_what_a_town_took(self):
        for cubes in (0, 1, 5):
            self.assert_earned([(NOTHING, took(cubes), NOTHING)], [(100, 7, 1000)], (0, 0, 0), 7 * cubes)

    def test_not_what_went_by_a_town(self):
        self.assert_earned([(NOTHING, (9, 2, 0, 7, 0, 0), NOTHING)], [(0, 10, 0)], (0, 0, 0), 20)

    def test_what_a_mill_let_below_at_and_above_its_most(self):
        for cubes, told in ((0, 0), (1, 7), (3, 21), (4, 28), (5, 28), (1000, 28), (GREAT, 28)):
            self.assert_earned([(NOTHING, NOTHING, let(cubes))], [(100, 1000, 7)], (0, 0, 0), told)

    def test_a_mill_of_most_0_earns_nothing(self):
        self.assert_earned([(let(9),)], [(7,)], (0,), 0, house_of(mill("a", most=0)))

    def test_the_most_of_a_mill_is_that_of_each_turn(self):
        pages = [(NOTHING, NOTHING, let(cubes)) for cubes in (9, 0, 3)]
        self.assert_earned(pages, [(0, 0, 1), (0, 0, 1), (0, 0, 1)], (0, 0, 0), 7)
        self.assert_earned(pages, [(0, 0, 1), (0, 0, 10), (0, 0, 100)], (0, 0, 0), 304)

    def test_what_a_basin_pumped_costs(self):
        for cubes in (0, 1, 5):
            self.assert_earned([((5, 0, 0, 0, cubes, 5 - cubes), NOTHING, NOTHING)], [(7, 1, 1)], (0, 0, 0), -7 * cubes)

    def test_not_what_a_basin_spilled_and_let(self):
        self.assert_earned([((50, 0, 20, 30, 0, 0), NOTHING, NOTHING)], [(7, 7, 7)], (5, 5, 5), 0)

    def test_what_lies_behind_the_last_turn_alone(self):
        pages = [(kept(cubes), NOTHING, NOTHING) for cubes in (9, 8, 3)]
        self.assert_earned(pages, [(0, 0, 0)] * 3, (10, 1000, 1000), 30)
        self.assert_earned(pages[:1], [(0, 0, 0)], (10, 0, 0), 90)
        self.assert_earned(pages[::-1], [(0, 0, 0)] * 3, (1, 0, 0), 9)

    def test_each_basin_by_its_own_left(self):
        house = house_of(basin("a"), basin("b"), basin("c"))
        self.assert_earned([(kept(3), kept(20), kept(100))], [(9, 9, 9)], (5, 1, 0), 35, house)

    def test_each_turn_by_its_own_pays(self):
        pages = [(NOTHING, took(1), NOTHING), (NOTHING, took(2), NOTHING), (NOTHING, took(3), NOTHING)]
        self.assert_earned(pages, [(0, 100, 0), (0, 10, 0), (0, 1, 0)], (0, 0, 0), 123)

    def test_all_together(self):
        pages = [((9, 0, 1, 2, 3, 3), (3, 2, 0, 1, 0, 0), (1, 0, 0, 1, 0, 0)),
                 ((2, 0, 0, 0, 1, 4), NOTHING, (3, 0, 0, 3, 0, 0))]
        self.assert_earned(pages, [(10, 100, 1000), (20, 200, 2)], (7, 7, 7), -30 + 200 + 1000 - 20 + 6 + 28)

    def test_pays_and_left_of_0(self):
        pages = [((9, 0, 1, 2, 3, 3), (3, 2, 0, 1, 0, 0), (1, 0, 0, 1, 0, 0))]
        self.assert_earned(pages, [(0, 0, 0)], (0, 0, 0), 0)

    def test_forty_figures(self):
        basin_with_pump = basin("a", "b", 0, GREAT, pump=("b", 1, GREAT))
        house = house_of(basin_with_pump, town("b", "c", 0, GREAT), mill("c", most=GREAT))
        pages = [((GREAT, 0, 0, 0, 1, GREAT - 1), took(GREAT), let(GREAT))] * 2
        told = 2 * (-1000 + 1000 * GREAT + 999 * GREAT) + 998 * (GREAT - 1)
        self.assert_earned(pages, [(1000, 1000, 999)] * 2, (998, 5, 5), told, house)

    def test_pages_of_runs_by_chance(self):
        chance = random.Random(311)
        for number in range(300):
            house, state, at, floods = random_run(chance)
            pages = run(house, state, at, floods)[0]
            many = len(house[1])
            pays = [random_cubes(chance, many, 1000) for page in pages]
            left = random_cubes(chance, many, 1000)
            self.assert_earned(pages, pays, left, earned_of(house, pages, pays, left), house)

    def test_pages_of_plans_by_chance(self):
        chance = random.Random(312)
        for number in range(60):
            house, state, floods, pays, left = random_plan(chance)
            pages = plan(house, state, floods, pays, left)[1]
            self.assert_earned(pages, pays, left, earned_of(house, pages, pays, left), house)
            other = [random_cubes(chance, len(house[1]), 9) for page in pages]
            self.assert_earned(pages, other, left, earned_of(house, pages, other, left), house)


class Planned(unittest.TestCase):
    def planned(self, house, state, floods, pays, left):
        """What a plan tells, once all is looked through that can be seen in it alone."""
        handed = (house, state, floods, pays, left)
        before = copy.deepcopy(handed)
        told = plan(*handed)
        self.assertEqual(repr(handed), repr(before))
        self.assertEqual((type(told), len(told)), (tuple, 3))
        most, pages, prices = told
        self.assertEqual((type(most), type(pages), type(prices)), (int, list, list))
        self.assertEqual([(type(page), len(page)) for page in pages], [(tuple, len(house[1]))] * len(floods))
        self.assertEqual([(type(row), len(row)) for row in prices], [(tuple, len(house[1]))] * len(floods))
        self.assertEqual({type(row) for page in pages for row in page}, {tuple})
        self.assertEqual({type(part) for page in pages for row in page for part in row}, {int})
        self.assertEqual({type(price) for row in prices for price in row}, {int})
        self.assertEqual([row[2] for page in pages for row in page], [0] * len(house[1]) * len(floods))
        self.assertTrue(is_planned(house, state, floods, pages), handed)
        self.assertEqual(most, earned_of(house, pages, pays, left))
        self.assertEqual(most, earned(house, pages, pays, left))
        return told

    def assert_plan(self, house, state, floods, pays, left, most, prices):
        """A plan earns so much, with these prices; and one cube more in a flood earns just its price more."""
        with self.subTest(house=house, state=state, floods=floods, pays=pays, left=left):
            told = self.planned(house, state, floods, pays, left)
            self.assertEqual((told[0], told[2]), (most, prices))
            self.assert_each_price(house, state, floods, pays, left)
        return told[1]

    def assert_price(self, told, house, state, floods, pays, left, when, place):
        richer = floods[:when] + [one_more(floods[when], place)] + floods[when + 1:]
        more = self.planned(house, state, richer, pays, left)
        self.assertEqual(more[0], told[0] + told[2][when][place], (when, place, house, state, floods, pays, left))

    def assert_each_price(self, house, state, floods, pays, left):
        told = self.planned(house, state, floods, pays, left)
        for when in range(len(floods)):
            for place in range(len(house[1])):
                self.assert_price(told, house, state, floods, pays, left, when, place)


class OnePlace(Planned):
    def test_a_town_takes_no_more_than_its_need(self):
        house = house_of(town("a", need=3))
        for cubes, most, price in ((0, 0, 5), (2, 10, 5), (3, 15, 0), (4, 15, 0), (GREAT, 15, 0)):
            pages = self.assert_plan(house, empty(house), [(cubes,)], [(5,)], (0,), most, [(price,)])
            self.assertEqual(pages, [((cubes, min(cubes, 3), 0, max(0, cubes - 3), 0, 0),)])

    def test_a_town_that_needs_nothing(self):
        house = house_of(town("a", need=0))
        pages = self.assert_plan(house, empty(house), [(4,)], [(5,)], (9,), 0, [(0,)])
        self.assertEqual(pages, [(let(4),)])

    def test_a_mill_is_paid_up_to_its_most(self):
        for most in (0, 1, 3):
            house = house_of(mill("a", most=most))
            for cubes in (0, 1, 2, 3, 9):
                told = 7 * min(cubes, most)
                price = 7 if cubes < most else 0
                pages = self.assert_plan(house, empty(house), [(cubes,)], [(7,)], (9,), told, [(price,)])
                self.assertEqual(pages, [(let(cubes),)])

    def test_a_basin_keeps_up_to_its_brim(self):
        for brim in (0, 1, 3):
            house = house_of(basin("a", brim=brim))
            for cubes in (0, 1, 3, 9):
                told = 7 * min(cubes, brim)
                price = 7 if cubes < brim else 0
                pages = self.assert_plan(house, empty(house), [(cubes,)], [(1,)], (7,), told, [(price,)])
                self.assertEqual(pages, [((cubes, 0, 0, max(0, cubes - brim), 0, min(cubes, brim)),)])

    def test_what_lay_at_the_first(self):
        house = house_of(basin("a", brim=10))
        pages = self.assert_plan(house, start(house, (8,)), [(1,), (0,)], [(0,), (0,)], (2,), 18, [(2,), (2,)])
        self.assertEqual(pages, [(kept(9, came=1),), (kept(9),)])

    def test_what_is_kept_comes_out_as_what_lay(self):
        house = house_of(basin("a", brim=10))
        pages = self.assert_plan(house, empty(house), [(3,), (4,), (5,)], [(0,)] * 3, (1,), 10, [(0,), (0,), (0,)])
        self.assertEqual(sum([page[0][3] for page in pages]), 2)
        self.assertEqual([page[0][0] for page in pages], [3, 4, 5])

    def test_rules_are_not_asked(self):
        for rule in (SHUT, WIDE):
            house = house_of(basin("a", brim=10, rule=rule))
            self.assert_plan(house, start(house, (8,)), [(1,)], [(0,)], (2,), 18, [(2,)])

    def test_pays_of_0_earn_nothing(self):
        for place in (basin("a"), town("a"), mill("a")):
            house = house_of(place)
            self.assert_plan(house, empty(house), [(5,), (5,)], [(0,), (0,)], (0,), 0, [(0,), (0,)])


class Worth(Planned):
    """Pays that make it worth to keep water, to let it, to pump it, to take it."""

    # A basin above a town; the town can take 4 in each turn.
    KEEPING = house_of(basin("a", "b", 0, 9), town("b", "sea", 0, 4))

    def test_to_let_it_at_once(self):
        pages = self.assert_plan(
            self.KEEPING, start(self.KEEPING, (4, 0)), [(0, 0), (0, 0)], [(0, 9), (0, 5)], (0, 0), 36,
            [(5, 5), (5, 5)])
        self.assertEqual(pages, [((0, 0, 0, 4, 0, 0), took(4)), (NOTHING, NOTHING)])

    def test_to_keep_it_for_a_better_turn(self):
        pages = self.assert_plan(
            self.KEEPING, start(self.KEEPING, (4, 0)), [(0, 0), (0, 0)], [(0, 5), (0, 9)], (0, 0), 36,
            [(5, 5), (5, 5)])
        self.assertEqual(pages, [(kept(4), NOTHING), ((0, 0, 0, 4, 0, 0), took(4))])

    def test_to_part_it_among_the_turns(self):
        pages = self.assert_plan(
            self.KEEPING, start(self.KEEPING, (9, 0)), [(0, 0), (0, 0)], [(0, 5), (0, 9)], (0, 0), 56,
            [(0, 0), (0, 0)])
        self.assertEqual([page[1][1] for page in pages], [4, 4])

    def test_to_keep_it_to_the_end(self):
        pages = self.assert_plan(
            self.KEEPING, start(self.KEEPING, (4, 0)), [(0, 0), (0, 0)], [(0, 5), (0, 9)], (10, 0), 40,
            [(10, 5), (10, 9)])
        self.assertEqual(pages, [(kept(4), NOTHING), (kept(4), NOTHING)])

    def test_to_take_it_here_or_to_let_it_go_to_a_better_place(self):
        house = house_of(town("a", "b", 0, 5), mill("b", "c", 0, 2), town("c", "sea", 0, 5))
        for pay, told in (((9, 1, 7), 45), ((7, 1, 7), 37), ((7, 3, 7), 41), ((7, 0, 9), 45)):
            answer = self.planned(house, empty(house), [(5, 0, 0)], [pay], (0, 0, 0))
            self.assertEqual(answer[0], told)
            self.assert_each_price(house, empty(house), [(5, 0, 0)], [pay], (0, 0, 0))

    def test_ranks_are_not_asked(self):
        for ranks in ((0, 1), (1, 0)):
            house = house_of(town("a", "b", 0, 5, ranks[0]), town("b", "sea", 0, 5, ranks[1]))
            pages = self.assert_plan(house, empty(house), [(5, 0)], [(3, 8)], (0, 0), 40, [(3, 3)])
            self.assertEqual(pages, [(let(5), took(5))])

    def test_to_pump_where_it_earns_more_than_it_costs(self):
        house = house_of(basin("a", "sea", 0, 9, pump=("b", 1, 3)), town("b", "sea", 0, 5))
        for pay, told, pumped in ((6, 3, 3), (7, 0, None), (8, 0, 0), (0, 21, 3)):
            answer = self.planned(house, start(house, (5, 0)), [(0, 0), (0, 0)], [(pay, 0), (0, 7)], (0, 0))
            self.assertEqual(answer[0], told)
            if pumped is not None:
                self.assertEqual(answer[1][0][0][4], pumped)
            self.assert_each_price(house, start(house, (5, 0)), [(0, 0), (0, 0)], [(pay, 0), (0, 7)], (0, 0))

    def test_a_pump_of_most_0_pumps_nothing(self):
        house = house_of(basin("a", "sea", 0, 9, pump=("b", 1, 0)), town("b", "sea", 0, 5))
        self.assert_plan(house, start(house, (5, 0)), [(0, 0), (0, 0)], [(0, 0), (0, 7)], (0, 0), 0, [(0, 0), (0, 7)])

    def test_to_pump_in_the_turn_in_which_it_costs_least(self):
        house = house_of(basin("a", "sea", 0, 9, pump=("b", 1, 3)), basin("b", "sea", 0, 9))
        pays = [(5, 0), (2, 0), (4, 0), (1, 0)]
        told = self.planned(house, start(house, (4, 0)), [(0, 0)] * 4, pays, (0, 10))
        self.assertEqual([page[0][4] for page in told[1]], [0, 3, 1, 0])
        self.assertEqual(told[0], 3 * 8 + 6)
        self.assert_each_price(house, start(house, (4, 0)), [(0, 0)] * 4, pays, (0, 10))

    def test_what_is_pumped_so_late_that_it_comes_behind_the_plan_earns_nothing(self):
        house = house_of(basin("a", "sea", 0, 9, pump=("b", 2, 9)), basin("b", "sea", 0, 9))
        for turns, told in ((1, 0), (2, 0), (3, 50), (4, 50)):
            answer = self.planned(house, start(house, (5, 0)), [(0, 0)] * turns, [(0, 0)] * turns, (0, 10))
            self.assertEqual(answer[0], told)


class Ways(Planned):
    """Rivers with and without delays, pumps to places ahead and behind, water on its way."""

    def test_a_delay_of_each_length(self):
        for delay in range(6):
            house = house_of(mill("a", "b", delay), town("b", "sea", 0, 9))
            floods = [(2, 0)] + [(0, 0)] * 5
            for paid in range(6):
                pays = [(0, 7 if when == paid else 0) for when in range(6)]
                pages = self.planned(house, empty(house), floods, pays, (0, 0))[1]
                self.assertEqual([page[1][0] for page in pages], [2 if when == delay else 0 for when in range(6)])
                self.assertEqual(self.planned(house, empty(house), floods, pays, (0, 0))[0], 14 * (paid == delay))
                self.assert_each_price(house, empty(house), floods, pays, (0, 0))

    def test_a_pump_delay_of_each_length_to_a_place_ahead_and_behind(self):
        for delay in range(1, 6):
            for to in ("a", "c"):
                house = house_of(
                    town("a", "sea", 0, 9), basin("b", "sea", 0, 9, pump=(to, delay, 2)), town("c", "sea", 0, 9))
                place = "abc".index(to)
                for paid in range(6):
                    pays = [tuple([7 * (when == paid) * (other == place) for other in range(3)]) for when in range(6)]
                    told = self.planned(house, start(house, (0, 5, 0)), [(0, 0, 0)] * 6, pays, (0, 0, 0))
                    self.assertEqual(told[0], 14 if paid >= delay else 0)
                    self.assertEqual(told[2][0][1], 0)

    def test_a_delay_at_the_sea_is_no_matter(self):
        for delay in range(6):
            house = house_of(mill("a", "sea", delay, 3))
            self.assert_plan(house, empty(house), [(5,)], [(2,)], (0,), 6, [(0,)])

    def test_what_is_on_its_way_comes_in_its_turn(self):
        house = house_of(town("a", "b", 0, 1000), town("b", "sea", 0, 1000))
        state = ((0, 0), coming_of(2, p0=(1, 2, 3, 4, 5), p1=(10, 20, 30, 40, 50)))
        for turns in (1, 2, 5, 6, 8):
            pages = self.planned(house, state, [(0, 100)] * turns, [(1, 1)] * turns, (0, 0))[1]
            came = [page[0][0] for page in pages]
            self.assertEqual(came, [1, 2, 3, 4, 5, 0, 0, 0][:turns])
            took_all = [page[0][1] + page[1][1] for page in pages]
            self.assertEqual(took_all, [111, 122, 133, 144, 155, 100, 100, 100][:turns])

    def test_what_is_still_on_its_way_behind_the_plan_earns_nothing(self):
        house = house_of(basin("a", "b", 3, 9), basin("b", "sea", 0, 9))
        for turns, told in ((1, 0), (3, 0), (4, 50)):
            answer = self.planned(house, start(house, (5, 0)), [(0, 0)] * turns, [(0, 0)] * turns, (0, 10))
            self.assertEqual(answer[0], told)

    def test_water_goes_round_by_pumps(self):
        # A mill is driven by the same water over and over, pumped up again in the turn behind.
        house = house_of(mill("a", "b", 0, 9), basin("b", "sea", 0, 9, pump=("a", 1, 9)))
        told = self.planned(house, empty(house), [(1, 0)] + [(0, 0)] * 4, [(2, 7)] * 5, (0, 0))
        self.assertEqual((told[0], told[2][0]), (2, (2, 0)))
        told = self.planned(house, empty(house), [(1, 0)] + [(0, 0)] * 4, [(7, 2)] * 5, (0, 0))
        self.assertEqual((told[0], [page[0][3] for page in told[1]]), (7 * 5 - 2 * 4, [1] * 5))
        self.assertEqual(told[2], [(27, 20), (22, 15), (17, 10), (12, 5), (7, 0)])
        self.assert_each_price(house, empty(house), [(1, 0)] + [(0, 0)] * 4, [(7, 2)] * 5, (0, 0))

    def test_the_line(self):
        house = checked((4, tuple(line())))
        chance = random.Random(321)
        for turns in (1, 2, 6, 12):
            self.assert_each_price(*random_plan(chance, house, turns))

    def test_no_more_is_kept_for_later_than_the_brim(self):
        house = house_of(basin("a", "b", 0, 2), town("b", "sea", 0, 9))
        pages = self.assert_plan(
            house, start(house, (1, 0)), [(4, 0), (0, 0), (0, 0)], [(0, 0), (0, 0), (0, 7)], (0, 0), 14,
            [(0, 0), (0, 0), (7, 7)])
        self.assertEqual([page[0][5] for page in pages], [2, 2, 0])

    def test_what_is_kept_makes_place_for_what_comes_later(self):
        house = house_of(basin("a", "b", 0, 2), town("b", "sea", 0, 1))
        pages = self.assert_plan(
            house, start(house, (2, 0)), [(0, 0)] * 4, [(0, 1), (0, 0), (0, 5), (0, 7)], (0, 0), 12,
            [(1, 1), (1, 0), (1, 1), (1, 1)])
        self.assertEqual([page[1][1] for page in pages], [0, 0, 1, 1])


class Tried(Planned):
    """Small houses, of which all pages are tried."""

    def assert_most(self, house, state, floods, pays, left):
        told = self.planned(house, state, floods, pays, left)
        found = False
        most = None
        for pages in planned_pages(house, state, floods):
            earns = earned_of(house, pages, pays, left)
            most = earns if most is None else max(most, earns)
            found = found or pages == told[1]
        self.assertEqual((told[0], found), (most, True), (house, state, floods, pays, left))

    def small_place(self, chance, number, names):
        name = names[number]
        down = chance.choice(names[number + 1:] + ["sea"])
        delay = chance.choice((0, 0, 0, 1, 2))
        kind = chance.choice(("basin", "basin", "town", "mill"))
        if kind == "basin":
            others = [other for other in names if other != name]
            pump = (chance.choice(others), chance.choice((1, 1, 2)), chance.randrange(3)) if others else None
            return basin(name, down, delay, chance.randrange(4), SHUT, pump if chance.randrange(3) else None)
        if kind == "town":
            return town(name, down, delay, chance.randrange(3))
        return mill(name, down, delay, chance.randrange(3))

    def small_plan(self, chance):
        names = list("abc")[:chance.choice((1, 2, 2, 3))]
        house = house_of(*[self.small_place(chance, number, names) for number in range(len(names))])
        turns = chance.choice((1, 2, 3)) if len(names) < 3 else chance.choice((1, 2))
        levels = [chance.randint(0, min(2, place[4])) if place[0] == "basin" else 0 for place in house[1]]
        coming = [tuple([chance.choice((0, 0, 0, 1)) for ahead in range(5)]) for place in house[1]]
        floods = [tuple([chance.choice((0, 0, 1, 2)) for place in names]) for when in range(turns)]
        most = chance.choice((1, 3, 1000))
        pays = [tuple([chance.randint(0, most) for place in names]) for when in range(turns)]
        left = tuple([chance.choice((0, chance.randint(0, most))) for place in names])
        return (house, (tuple(levels), tuple(coming)), floods, pays, left)

    def test_houses_by_chance(self):
        chance = random.Random(322)
        for number in range(200):
            handed = self.small_plan(chance)
            self.assert_most(*handed)
            self.assert_each_price(*handed)

    def test_water_that_must_be_parted(self):
        house = house_of(basin("a", "b", 0, 3, pump=("b", 1, 1)), town("b", "sea", 0, 1))
        for level in range(4):
            for pays in ([(1, 4), (0, 6)], [(3, 4), (0, 3)], [(0, 0), (0, 9)], [(5, 4), (5, 4)]):
                for left in (0, 2, 5):
                    self.assert_most(house, start(house, (level, 0)), [(0, 0), (0, 0)], pays, (left, 0))


class NoRunEarnsMore(Planned):
    def test_runs_of_the_same_house_by_any_rules(self):
        chance = random.Random(323)
        for number in range(60):
            house, state, floods, pays, left = random_plan(chance)
            most = self.planned(house, state, floods, pays, left)[0]
            for again in range(8):
                other = with_other_rules(chance, house)
                pages = run(other, state, chance.randrange(30), floods)[0]
                self.assertLessEqual(earned(other, pages, pays, left), most)
            pages = run(house, state, 0, floods)[0]
            self.assertLessEqual(earned(house, pages, pays, left), most)

    def test_a_run_that_earns_just_as_much(self):
        house = house_of(basin("a", "b", 0, 9, WIDE), town("b", "sea", 0, 4))
        pages = run(house, start(house, (4, 0)), 0, [(0, 0)])[0]
        self.assertEqual(earned(house, pages, [(0, 3)], (0, 0)), 12)
        self.assertEqual(plan(house, start(house, (4, 0)), [(0, 0)], [(0, 3)], (0, 0))[0], 12)


class Chance(Planned):
    def test_houses_by_chance(self):
        chance = random.Random(324)
        for number in range(120):
            handed = random_plan(chance)
            told = self.planned(*handed)
            for again in range(4):
                when = chance.randrange(len(handed[2]))
                self.assert_price(told, *handed, when, chance.randrange(len(handed[0][1])))

    def test_turns_times_places_of_sixty(self):
        chance = random.Random(325)
        for many in (1, 5, 6, 10, 12):
            house = checked(random_house(chance))
            while len(house[1]) != many:
                house = checked(random_house(chance))
            for again in range(2):
                self.assert_each_price(*random_plan(chance, house, 60 // many))

    def test_each_price_of_houses_by_chance(self):
        chance = random.Random(326)
        for number in range(20):
            house = checked(random_house(chance))
            self.assert_each_price(*random_plan(chance, house, chance.randint(1, max(1, 20 // len(house[1])))))

    def test_more_water_never_earns_less(self):
        chance = random.Random(327)
        for number in range(60):
            house, state, floods, pays, left = random_plan(chance)
            told = plan(house, state, floods, pays, left)
            richer = [raised_cubes(chance, flood) for flood in floods]
            self.assertGreaterEqual(plan(house, state, richer, pays, left)[0], told[0])
            self.assertGreaterEqual(min([min(row) for row in told[2]]), 0)

    def test_forty_figures(self):
        house = house_of(
            basin("a", "b", 1, GREAT, SHUT, ("c", 2, GREAT)), town("b", "c", 0, GREAT), mill("c", "sea", 0, GREAT - 1))
        state = ((GREAT, 0, 0), ((GREAT,) * 5, (GREAT,) * 5, QUIET))
        for floods in ([(GREAT, 0, 1)], [(GREAT, GREAT, GREAT)] * 3, [(0, 0, 0), (GREAT, 1, 0)] * 4):
            for pay in ((0, 1, 1), (3, 1000, 999), (999, 1000, 0)):
                self.assert_each_price(house, state, floods, [pay] * len(floods), (500, 0, 0))

    def test_each_cube_of_many_earns_alike(self):
        house = house_of(basin("a", "b", 0, 10 ** 30), town("b", "sea", 0, 10 ** 30))
        told = self.planned(house, start(house, (10 ** 30, 0)), [(10 ** 30, 0)], [(0, 7)], (5, 0))
        self.assertEqual(told, (12 * 10 ** 30, [((10 ** 30, 0, 0, 10 ** 30, 0, 10 ** 30), took(10 ** 30))], [(0, 0)]))


class Own(unittest.TestCase):
    def test_lists_told_are_new_and_the_askers_own(self):
        house = house_of(basin("a", "b", 0, 9), town("b", "sea", 0, 4))
        handed = (house, start(house, (5, 0)), [(1, 2), (3, 4)], [(0, 5), (0, 6)], (1, 0))
        kept_before = copy.deepcopy(handed)
        first = plan(*handed)
        second = plan(*handed)
        told = copy.deepcopy(first)
        first[1].clear()
        first[2].clear()
        self.assertEqual(second, told)
        self.assertEqual(plan(*handed), told)
        self.assertEqual(handed, kept_before)
        handed[2].append((9, 9))
        handed[3][0] = (0, 0)
        self.assertEqual(second, told)


if __name__ == "__main__":
    unittest.main()
