"""What `checked` takes and refuses, in which order and with which field [2, 4, 5, 6]."""

import copy
import unittest

from builders import DOWNS, GREAT, NAMES, PLAIN, among_mills, basin, forest, house_with, line, mill, town
from sluiceway.errors import NoHouse, NoName, NoNumber, NoPump, NoRiver, NoRule
from sluiceway.houses import checked

ENDS = (0, 2, 4)
NO_NAMES = ("", "sea", "abcdefghi", "Abc", "aBc", "abC", "ab1", "1ab", "a b", " ab", "ab ", "a-b", "a_b", "ab\n", "\n")


def put(maker, number, **changes):
    """The line with a place of another make at the number, its name and river kept where not changed."""
    parts = {"name": NAMES[number], "down": DOWNS[number]}
    parts.update(changes)
    return house_with(number, maker(**parts))


class Checking(unittest.TestCase):
    def assert_good(self, house):
        before = copy.deepcopy(house)
        self.assertIs(checked(house), house)
        self.assertEqual(house, before)

    def assert_refused(self, refusal, place, house):
        before = copy.deepcopy(house)
        with self.assertRaises(refusal) as caught:
            checked(house)
        self.assertEqual(caught.exception.place, place)
        self.assertEqual(house, before)

    def assert_no_house(self, house):
        with self.assertRaises(NoHouse):
            checked(house)

    def assert_each(self, refusal, maker, changes):
        """Each change alone is refused at the first, a middle and the last place."""
        for change in changes:
            for number in ENDS:
                with self.subTest(refusal=refusal, number=number, change=change):
                    self.assert_refused(refusal, number, put(maker, number, **change))


class Good(Checking):
    def test_all_kinds_with_and_without_pumps(self):
        self.assert_good((4, tuple(line())))

    def test_each_kind_at_each_place(self):
        for number in range(5):
            for maker in (basin, town, mill):
                with self.subTest(number=number, maker=maker):
                    self.assert_good(put(maker, number))

    def test_one_place_of_each_kind(self):
        for place in (basin("a"), town("a"), mill("a")):
            self.assert_good((1, (place,)))

    def test_years_of_1_to_24_turns(self):
        for year in range(1, 25):
            with self.subTest(year):
                self.assert_good((year, (basin("a"), mill("b"))))

    def test_1_to_12_places(self):
        for many in range(1, 13):
            with self.subTest(many):
                self.assert_good((1, forest(many)))

    def test_delays_of_0_to_5(self):
        for delay in range(6):
            for maker in (basin, town, mill):
                for number in ENDS:
                    with self.subTest(delay=delay, maker=maker, number=number):
                        self.assert_good(put(maker, number, delay=delay))

    def test_pump_delays_of_1_to_5(self):
        for delay in range(1, 6):
            for number in ENDS:
                with self.subTest(delay=delay, number=number):
                    self.assert_good(put(basin, number, pump=("dill", delay, 4)))

    def test_numbers_of_0_and_of_forty_figures(self):
        for size in (0, 1, GREAT):
            for number in ENDS:
                with self.subTest(size=size, number=number):
                    self.assert_good(put(basin, number, brim=size))
                    self.assert_good(put(basin, number, pump=("dill", 1, size)))
                    self.assert_good(put(town, number, need=size))
                    self.assert_good(put(town, number, rank=size))
                    self.assert_good(put(mill, number, most=size))

    def test_rivers_to_each_later_place_and_to_the_sea(self):
        for number in range(5):
            for down in NAMES[number + 1:] + ("sea",):
                with self.subTest(number=number, down=down):
                    self.assert_good(put(basin, number, down=down))

    def test_pumps_to_each_other_place(self):
        for number in range(5):
            for to in NAMES:
                if to != NAMES[number]:
                    with self.subTest(number=number, to=to):
                        self.assert_good(put(basin, number, pump=(to, 1, 4)))

    def test_names_of_one_and_eight_letters_and_around_the_sea(self):
        names = ("a", "z", "abcdefgh", "zzzzzzzz", "seas", "se", "asea", "seasea")
        self.assert_good((1, tuple([mill(name) for name in names])))


class GoodRules(Checking):
    def assert_good_rule(self, rule, pump=None, year=4):
        for number in ENDS:
            with self.subTest(rule=rule, number=number):
                place = basin(NAMES[number], rule=rule, pump=pump)
                self.assert_good(among_mills((number, place), year=year))

    def test_seasons_without_steps(self):
        self.assert_good_rule(((0, ()),))
        self.assert_good_rule(((0, ()), (1, ()), (3, ())))

    def test_a_season_from_the_last_turn_of_the_year(self):
        self.assert_good_rule(((0, ()), (3, ())))
        self.assert_good_rule(((0, ()), (23, ())), year=24)
        self.assert_good_rule(((0, ()), (1, ())), year=2)

    def test_a_season_for_each_turn_of_the_year(self):
        self.assert_good_rule(tuple([(first, ((first, 1, "river"),)) for first in range(24)]), year=24)

    def test_a_year_of_one_turn(self):
        self.assert_good_rule(((0, ((0, 1, "river"),)),), year=1)

    def test_steps_from_height_0_and_of_one_cube(self):
        self.assert_good_rule(((0, ((0, 1, "river"),)),))

    def test_steps_that_begin_at_the_end_of_the_one_ahead_or_above_it(self):
        self.assert_good_rule(((0, ((5, 4, "river"), (9, 1, "river"), (10, 3, "river"), (14, 1, "river"))),))

    def test_steps_above_the_brim(self):
        self.assert_good_rule(((0, ((100, 1, "river"), (1000, 50, "river"))),))

    def test_steps_of_forty_figures(self):
        self.assert_good_rule(((0, ((GREAT, GREAT, "pump"), (2 * GREAT, 1, "river"))),), ("dill", 1, GREAT))

    def test_stairs_of_forty_steps(self):
        steps = tuple([(2 * step, 2, ("river", "pump")[step % 2]) for step in range(40)])
        self.assert_good_rule(((0, steps),), ("dill", 1, 40))

    def test_lower_steps_in_a_later_season(self):
        self.assert_good_rule(((0, ((50, 9, "river"),)), (1, ((0, 2, "river"), (2, 2, "river")))))

    def test_pump_steps_that_come_to_just_the_most(self):
        self.assert_good_rule(((0, ((0, 4, "pump"),)),), ("dill", 1, 4))
        self.assert_good_rule(((0, ((0, 1, "pump"), (1, 9, "river"), (10, 3, "pump"))),), ("dill", 1, 4))

    def test_each_season_has_the_whole_most(self):
        self.assert_good_rule(((0, ((0, 4, "pump"),)), (1, ((3, 4, "pump"),)), (2, ())), ("dill", 1, 4))

    def test_river_steps_are_not_bound_by_the_most(self):
        self.assert_good_rule(((0, ((0, 50, "river"),)),), ("dill", 1, 0))


class RefusedHouses(Checking):
    def test_years(self):
        for year in (0, -1, 25, 26, -24, GREAT, -GREAT):
            with self.subTest(year):
                self.assert_no_house((year, (mill("a"),)))

    def test_how_many_places(self):
        self.assert_no_house((1, ()))
        self.assert_no_house((1, forest(13)))
        self.assert_no_house((24, forest(14)))

    def test_both(self):
        self.assert_no_house((0, ()))
        self.assert_no_house((25, forest(13)))

    def test_goes_ahead_of_every_place(self):
        bad = mill("Bad", "nowhere", -1, -1)
        self.assert_no_house((0, (bad,)))
        self.assert_no_house((25, (bad,)))
        self.assert_no_house((1, (bad,) + forest(12)))
        self.assert_no_house((1, forest(12) + (bad,)))


class RefusedNames(Checking):
    def test_texts_that_are_no_names(self):
        for maker in (basin, town, mill):
            for number in ENDS:
                for name in NO_NAMES:
                    with self.subTest(maker=maker, number=number, name=name):
                        self.assert_refused(NoName, number, among_mills((number, maker(name))))

    def test_names_borne_by_a_place_ahead(self):
        for later in range(1, 5):
            for ahead in range(later):
                for maker in (basin, town, mill):
                    with self.subTest(later=later, ahead=ahead, maker=maker):
                        self.assert_refused(NoName, later, among_mills((later, maker(NAMES[ahead]))))

    def test_the_second_of_three_alike_is_refused(self):
        self.assert_refused(NoName, 2, (1, (mill("b"), mill("a"), mill("a"), mill("a"))))


class RefusedRivers(Checking):
    def test_names_that_no_later_place_bears(self):
        for maker in (basin, town, mill):
            for number in range(5):
                for down in NAMES[:number + 1] + ("fir", "", "Sea", "sea ", "seas", "ELM", "el", "elms"):
                    with self.subTest(maker=maker, number=number, down=down):
                        self.assert_refused(NoRiver, number, put(maker, number, down=down))

    def test_delays(self):
        for maker in (basin, town, mill):
            self.assert_each(NoRiver, maker, [{"delay": delay} for delay in (-1, -5, 6, 7, GREAT, -GREAT)])

    def test_delays_to_the_sea(self):
        for delay in (-1, 6):
            for number in ENDS:
                self.assert_refused(NoRiver, number, put(town, number, down="sea", delay=delay))

    def test_down_is_looked_up_among_later_names_whatever_these_are(self):
        for name in NO_NAMES:
            with self.subTest(name):
                self.assert_refused(NoName, 1, (1, (mill("a", name), mill(name))))
                self.assert_refused(NoName, 2, (1, (mill("a", name), mill("b"), mill(name))))

    def test_down_is_found_where_a_later_place_bears_the_own_name(self):
        self.assert_refused(NoName, 2, (1, (mill("a", "a"), mill("b"), mill("a"))))

    def test_down_is_found_where_a_later_place_bears_a_name_of_one_ahead(self):
        self.assert_refused(NoName, 2, (1, (mill("a"), mill("b", "a"), mill("a"))))


class RefusedNumbers(Checking):
    def test_below_0(self):
        for size in (-1, -2, -GREAT):
            self.assert_each(NoNumber, basin, [{"brim": size}, {"pump": ("dill", 1, size), "brim": 0}])
            self.assert_each(NoNumber, town, [{"need": size}, {"rank": size}, {"need": size, "rank": size}])
            self.assert_each(NoNumber, mill, [{"most": size}])

    def test_one_of_two_is_enough(self):
        self.assert_each(NoNumber, town, [{"need": 0, "rank": -1}, {"need": -1, "rank": 0}])
        self.assert_each(NoNumber, town, [{"need": GREAT, "rank": -1}, {"need": -1, "rank": GREAT}])
        pump = ("dill", 1, GREAT)
        self.assert_each(NoNumber, basin, [{"brim": -1, "pump": pump}, {"brim": GREAT, "pump": ("dill", 1, -1)}])


class RefusedPumps(Checking):
    def test_names_that_no_other_place_bears(self):
        for to in ("sea", "fir", "", "ELM", "elms", "el", "dill\n"):
            self.assert_each(NoPump, basin, [{"pump": (to, 1, 4)}])

    def test_the_own_name(self):
        for number in range(5):
            self.assert_refused(NoPump, number, put(basin, number, pump=(NAMES[number], 1, 4)))

    def test_delays(self):
        self.assert_each(NoPump, basin, [{"pump": ("dill", delay, 4)} for delay in (0, -1, 6, 7, GREAT, -GREAT)])

    def test_to_is_looked_up_among_all_other_names_whatever_these_are(self):
        for name in NO_NAMES:
            with self.subTest(name):
                self.assert_refused(NoName, 1, (1, (basin("a", pump=(name, 1, 4)), mill(name))))
                self.assert_refused(NoName, 2, (1, (basin("a", pump=(name, 1, 4)), mill("b"), mill(name))))

    def test_to_is_found_where_a_later_place_bears_the_own_name(self):
        self.assert_refused(NoName, 2, (1, (basin("a", pump=("a", 1, 4)), mill("b"), mill("a"))))


class RefusedRules(Checking):
    def assert_no_rule(self, rule, pump=None):
        self.assert_each(NoRule, basin, [{"rule": rule, "pump": pump}])

    def test_no_season(self):
        self.assert_no_rule(())
        self.assert_no_rule((), ("dill", 1, 4))

    def test_the_first_season_is_not_from_0(self):
        for first in (1, 3, -1, 4, GREAT):
            self.assert_no_rule(((first, ()),))
        self.assert_no_rule(((1, ()), (2, ())))
        self.assert_no_rule(((-1, ()), (0, ())))

    def test_a_season_is_not_above_the_one_ahead(self):
        self.assert_no_rule(((0, ()), (0, ())))
        self.assert_no_rule(((0, ()), (-1, ())))
        self.assert_no_rule(((0, ()), (2, ()), (2, ())))
        self.assert_no_rule(((0, ()), (2, ()), (1, ())))
        self.assert_no_rule(((0, ()), (2, ()), (1, ()), (3, ())))
        self.assert_no_rule(((0, ()), (1, ()), (1, ()), (3, ())))

    def test_a_season_is_not_within_the_year(self):
        for first in (4, 5, 24, GREAT):
            self.assert_no_rule(((0, ()), (first, ())))
        self.assert_no_rule(((0, ()), (3, ()), (4, ())))
        self.assert_no_rule(((0, ()), (4, ()), (5, ())))
        self.assert_refused(NoRule, 0, (1, (basin("a", rule=((0, ()), (1, ()))),)))
        self.assert_refused(NoRule, 0, (24, (basin("a", rule=((0, ()), (24, ()))),)))

    def assert_no_stairs(self, steps, pump=None):
        """The steps are refused in the first, a middle, the last and the only season."""
        good = ((0, 1, "river"),)
        self.assert_no_rule(((0, steps),), pump)
        self.assert_no_rule(((0, steps), (1, good), (2, good)), pump)
        self.assert_no_rule(((0, good), (1, steps), (2, good)), pump)
        self.assert_no_rule(((0, good), (1, good), (2, steps)), pump)

    def test_heights_below_0(self):
        for height in (-1, -2, -GREAT):
            self.assert_no_stairs(((height, 5, "river"),))
            self.assert_no_stairs(((height, 5, "river"), (10, 5, "river")))
            self.assert_no_stairs(((0, 5, "river"), (height, 5, "river")))
            self.assert_no_stairs(((0, 5, "river"), (height, 5, "river"), (10, 1, "river")))

    def test_no_cubes_in_a_step(self):
        for many in (0, -1, -GREAT):
            self.assert_no_stairs(((3, many, "river"),))
            self.assert_no_stairs(((3, many, "river"), (10, 5, "river")))
            self.assert_no_stairs(((0, 2, "river"), (3, many, "river"), (10, 5, "river")))
            self.assert_no_stairs(((0, 2, "river"), (3, many, "river")))
            self.assert_no_stairs(((3, many, "pump"),), ("dill", 1, 4))

    def test_steps_that_begin_below_the_end_of_the_one_ahead(self):
        self.assert_no_stairs(((5, 4, "river"), (8, 1, "river")))
        self.assert_no_stairs(((5, 4, "river"), (5, 4, "river")))
        self.assert_no_stairs(((5, 4, "river"), (0, 5, "river")))
        self.assert_no_stairs(((5, 4, "river"), (8, 1, "pump")), ("dill", 1, 4))
        self.assert_no_stairs(((0, 1, "river"), (5, 4, "river"), (8, 9, "river")))
        self.assert_no_stairs(((0, 3, "river"), (2, 4, "river"), (8, 9, "river")))
        self.assert_no_stairs(((GREAT, GREAT, "river"), (2 * GREAT - 1, 1, "river")))

    def test_a_step_by_the_pump_and_no_pump(self):
        self.assert_no_stairs(((0, 1, "pump"),))
        self.assert_no_stairs(((0, 1, "river"), (1, 1, "pump"), (2, 1, "river")))
        self.assert_no_stairs(((0, 1, "river"), (1, 1, "river"), (2, 1, "pump")))

    def test_steps_by_the_pump_above_its_most(self):
        self.assert_no_stairs(((0, 5, "pump"),), ("dill", 1, 4))
        self.assert_no_stairs(((0, 1, "pump"),), ("dill", 1, 0))
        self.assert_no_stairs(((0, 2, "pump"), (2, 3, "pump")), ("dill", 1, 4))
        self.assert_no_stairs(((0, 4, "pump"), (4, 9, "river"), (13, 1, "pump")), ("dill", 1, 4))
        self.assert_no_stairs(((0, GREAT, "pump"), (GREAT, 1, "pump")), ("dill", 1, GREAT))


# One fault for each refusal of a place, in the order in which they are due; each changes another part of a basin.
FAULTS = (
    (NoName, {"name": "Bad"}),
    (NoRiver, {"down": "nowhere"}),
    (NoNumber, {"brim": -1}),
    (NoPump, {"pump": ("nowhere", 1, 4)}),
    (NoRule, {"rule": ()}),
)


class Order(Checking):
    def test_several_at_one_place(self):
        for faults in range(1, 2 ** len(FAULTS)):
            chosen = [FAULTS[bit] for bit in range(len(FAULTS)) if faults >> bit & 1]
            for number in ENDS:
                with self.subTest(chosen=chosen, number=number):
                    parts = {"name": NAMES[number]}
                    for refusal, change in chosen:
                        parts.update(change)
                    self.assert_refused(chosen[0][0], number, among_mills((number, basin(**parts))))

    def test_several_at_two_places(self):
        for refusal, change in FAULTS:
            for other_refusal, other_change in FAULTS:
                for first, second in ((0, 1), (0, 4), (1, 3), (3, 4)):
                    with self.subTest(first=refusal, second=other_refusal, places=(first, second)):
                        one = basin(**dict({"name": NAMES[first]}, **change))
                        other = basin(**dict({"name": NAMES[second]}, **other_change))
                        self.assert_refused(refusal, first, among_mills((first, one), (second, other)))

    def test_other_causes_at_one_place(self):
        # From all causes at once on, one more is mended each time.
        steps = (
            (NoName, {"name": "alder", "delay": 6, "brim": -1, "pump": ("elm", 0, -1), "rule": ((1, ()),)}),
            (NoRiver, {"name": "cedar"}),
            (NoNumber, {"delay": 5}),
            (NoNumber, {"brim": 0}),
            (NoPump, {"pump": ("elm", 0, 0)}),
            (NoRule, {"pump": ("elm", 1, 0)}),
        )
        parts = {}
        for refusal, change in steps:
            parts.update(change)
            with self.subTest(parts=parts):
                self.assert_refused(refusal, 2, among_mills((2, basin(**parts))))
        self.assert_good(among_mills((2, basin(**dict(parts, rule=PLAIN)))))

    def test_river_then_number_of_towns_and_mills(self):
        self.assert_refused(NoRiver, 1, put(town, 1, delay=-1, need=-1, rank=-1))
        self.assert_refused(NoRiver, 1, put(mill, 1, delay=-1, most=-1))

    def test_a_name_borne_twice_goes_behind_the_faults_of_the_first_bearer(self):
        self.assert_refused(NoRule, 0, (1, (basin("a", rule=()), mill("a"))))

    def test_a_good_rule_of_a_later_place_is_asked_by_its_own_pump(self):
        pumped = ((0, ((0, 4, "pump"),)),)
        places = (basin("a", rule=pumped, pump=("b", 1, 4)), basin("b", rule=pumped))
        self.assert_refused(NoRule, 1, (1, places))


if __name__ == "__main__":
    unittest.main()
