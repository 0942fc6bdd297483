"""Years that come again, and asks for ever [2, 3, 25, 26]."""

import copy
import inspect
import random
import unittest

from builders import (
    GREAT, PARTS, QUIET, SHUT, WIDE, answer_by_words, basin, behind_by_words, coming_of, cubes_between, empty, house_of,
    line, mill, page_by_words, raised, random_ask, random_cubes, random_house, random_state, richer_run, state_between,
    town,
)
from sluiceway.errors import NoAsk, NoBounds, TooLong
from sluiceway.floods import ever, look, look_ever
from sluiceway.turns import run, start

ALL_BY_PUMP = ((0, ((0, 50, "pump"),)),)


def filling(brim, year=1):
    """A house of one basin that only fills."""
    return house_of(basin("a", brim=brim, rule=SHUT), year=year)


def circling(delay, back):
    """Two basins that pump all that comes to one another."""
    return house_of(
        basin("a", brim=50, rule=ALL_BY_PUMP, pump=("b", delay, 50)),
        basin("b", brim=50, rule=ALL_BY_PUMP, pump=("a", back, 50)),
    )


def levels_of(house, levels):
    """The states in which so much lies in the one basin of a house."""
    return [start(house, (level,)) for level in levels]


class Told(unittest.TestCase):
    def assert_told(self, call, *handed, told):
        """A call tells this, of the same kinds, and what is handed in stays."""
        before = repr(handed)
        with self.subTest(call=call.__name__, handed=handed):
            # The words of things tell tuples from lists, and numbers from truths.
            self.assertEqual(repr(call(*handed)), repr(told))
            self.assertEqual(repr(handed), before)

    def assert_refused(self, refusal, fields, call, *handed):
        before = repr(handed)
        with self.subTest(call=call.__name__, handed=handed):
            self.assertEqual(raised(call, *handed), (refusal, fields))
            self.assertEqual(repr(handed), before)


class Ever(Told):
    def test_the_first_state_comes_again_at_once(self):
        for house, flood in ((house_of(mill("a")), (5,)), (house_of(town("a", need=3)), (9,)), (filling(7), (0,))):
            self.assert_told(ever, house, empty(house), [flood], told=[empty(house), empty(house)])
        house = filling(7)
        self.assert_told(ever, house, start(house, (7,)), [(3,)], told=levels_of(house, (7, 7)))

    def test_a_later_state_comes_again_after_some_years(self):
        house = filling(10)
        self.assert_told(ever, house, empty(house), [(3,)], told=levels_of(house, (0, 3, 6, 9, 10, 10)))
        self.assert_told(ever, house, start(house, (5,)), [(3,)], told=levels_of(house, (5, 8, 10, 10)))
        house = house_of(basin("a", brim=20, rule=((0, ((6, 3, "river"),)),)))
        # From 20 on 3 go and 1 comes each year, until the water stands at 6 and 1 more: that one goes.
        levels = (20, 18, 16, 14, 12, 10, 8, 6, 6)
        self.assert_told(ever, house, start(house, (20,)), [(1,)], told=levels_of(house, levels))

    def test_a_circle_of_several_years(self):
        for delay in range(1, 6):
            for back in range(1, 6):
                house = circling(delay, back)
                to_b = [((0, 0), (QUIET, QUIET[:left] + (4,) + QUIET[left + 1:])) for left in range(5)]
                to_a = [((0, 0), (QUIET[:left] + (4,) + QUIET[left + 1:], QUIET)) for left in range(5)]
                circle = to_b[:delay][::-1] + to_a[:back][::-1]
                for number in range(len(circle)):
                    turned = circle[number:] + circle[:number]
                    self.assert_told(ever, house, turned[0], [(0, 0)], told=turned + [turned[0]])
                # What lies at the first never lies again.
                told = [start(house, (4, 0))] + circle + circle[:1]
                self.assert_told(ever, house, start(house, (4, 0)), [(0, 0)], told=told)

    def test_water_on_its_way_makes_states_unlike(self):
        house = house_of(mill("a", "b", 3), mill("b"))
        told = [empty(house)]
        told += [((0, 0), (QUIET, ahead)) for ahead in ((0, 0, 6, 0, 0), (0, 6, 6, 0, 0), (6, 6, 6, 0, 0))]
        self.assert_told(ever, house, empty(house), [(6, 0)], told=told + told[-1:])

    def test_a_year_of_several_turns_begins_at_turn_0(self):
        rule = ((0, ()), (2, ((0, 99, "river"),)))
        house = house_of(basin("a", brim=9, rule=rule), year=4)
        # All that stands in the basin goes in the third and fourth turn.
        self.assert_told(ever, house, start(house, (8,)), [(3,), (1,), (0,), (5,)], told=levels_of(house, (8, 0, 0)))
        rule = ((0, ((0, 99, "river"),)), (1, ()))
        house = house_of(basin("a", brim=9, rule=rule), year=3)
        self.assert_told(ever, house, start(house, (1,)), [(3,), (4,), (2,)], told=levels_of(house, (1, 6, 6)))
        # A year of 24 turns, of which the state within the year comes again, but not at its begin.
        house = filling(60, 24)
        self.assert_told(ever, house, empty(house), [(0,)] * 23 + [(25,)], told=levels_of(house, (0, 25, 50, 60, 60)))

    def test_just_as_many_years_as_most_allows(self):
        house = filling(10)
        told = levels_of(house, (0, 3, 6, 9, 10, 10))
        for most in (5, 6, 100, 200):
            self.assert_told(ever, house, empty(house), [(3,)], most, told=told)
        for most in (4, 3, 2, 1, 0, -1):
            self.assert_refused(TooLong, [most], ever, house, empty(house), [(3,)], most)
        self.assert_told(ever, house, empty(house), [(0,)], 1, told=levels_of(house, (0, 0)))
        self.assert_refused(TooLong, [0], ever, house, empty(house), [(0,)], 0)

    def test_by_the_name_of_most(self):
        house = filling(10)
        self.assertEqual(ever(house, empty(house), [(3,)], most=5), levels_of(house, (0, 3, 6, 9, 10, 10)))
        with self.assertRaises(TooLong) as refused:
            ever(house=house, state=empty(house), floods=[(3,)], most=4)
        self.assertEqual(refused.exception.most, 4)

    def test_most_left_out_is_100(self):
        for call in (ever, look_ever):
            self.assertEqual(inspect.signature(call).parameters["most"].default, 100)
        house = filling(99)
        self.assert_told(ever, house, empty(house), [(1,)], told=levels_of(house, list(range(100)) + [99]))
        house = filling(100)
        self.assert_refused(TooLong, [100], ever, house, empty(house), [(1,)])
        self.assert_told(ever, house, empty(house), [(1,)], 101, told=levels_of(house, list(range(101)) + [100]))

    def test_two_hundred_years(self):
        house = filling(199)
        self.assert_told(ever, house, empty(house), [(1,)], 200, told=levels_of(house, list(range(200)) + [199]))
        self.assert_refused(TooLong, [199], ever, house, empty(house), [(1,)], 199)

    def test_floods_that_are_not_a_year(self):
        for year in (1, 2, 5, 24):
            house = filling(3, year)
            for many in (0, 1, year - 1, year + 1, 2 * year):
                if many != year:
                    for most in (-1, 0, 1, 100):
                        self.assert_refused(NoBounds, [], ever, house, empty(house), [(1,)] * many, most)
                    self.assert_refused(NoBounds, [], ever, house, empty(house), [(1,)] * many)

    def test_forty_figures(self):
        house = house_of(basin("a", brim=GREAT, rule=SHUT))
        half = GREAT // 2
        told = levels_of(house, (0, half, 2 * half, GREAT, GREAT))
        self.assert_told(ever, house, empty(house), [(half,)], told=told)

    def test_by_words(self):
        chance = random.Random(251)
        lengths = {}
        for number in range(150):
            house, state, floods = small_years(chance)
            told = years_by_words(house, state, floods, 15)[0]
            if told is None:
                self.assert_refused(TooLong, [15], ever, house, state, floods, 15)
            else:
                years = len(told) - 1
                lengths[years] = True
                self.assert_told(ever, house, state, floods, years, told=told)
                self.assert_refused(TooLong, [years - 1], ever, house, state, floods, years - 1)
                self.assertEqual([told.count(one) for one in told[:-1]].count(2), 1)
                self.assertEqual(told.count(told[-1]), 2)
        self.assertGreater(len(lengths), 4)

    def test_the_list_is_new_and_the_askers_own(self):
        house = filling(10)
        told = ever(house, empty(house), [(3,)])
        kept = list(told)
        told[0] = "mine"
        told.append("mine")
        self.assertEqual(ever(house, empty(house), [(3,)]), kept)
        floods = [(3,)]
        told = ever(house, empty(house), floods)
        floods[0] = (4,)
        self.assertEqual(told, kept)


def small_years(chance):
    """A house with a short year, a state of it and floods of a year."""
    house = random_house(chance)
    while house[0] == 24:
        house = random_house(chance)
    return (house, random_state(chance, house), [random_cubes(chance, len(house[1])) for turn in range(house[0])])


def years_by_words(house, state, floods, most):
    """The states at the years' begins and the pages of these years; None and None where they are more than so many."""
    states = [state]
    pages = []
    while states.count(states[-1]) < 2:
        if len(states) - 1 == most:
            return (None, None)
        for at, flood in enumerate(floods):
            pages.append(page_by_words(house, state, at, flood))
            state = behind_by_words(house, state, pages[-1])
        states.append(state)
    return (states, pages)


class LookEver(Told):
    # A basin that keeps 2, lets the next 3, pumps the next 4 and has room for 20, a town with a need of 9, a mill.
    HOUSE = house_of(
        basin("a", "b", 0, 20, ((0, ((2, 3, "river"), (5, 4, "pump"))), (1, ())), ("c", 1, 4)), town("b", "c", 0, 9),
        mill("c"), year=2,
    )
    # From empty on what basin 0 spills, lets, pumps and keeps, turn by turn; the second turn of a year only fills:
    #   (0, 0, 0, 1), (0, 0, 0, 9);   (0, 3, 4, 3), (0, 0, 0, 11);   (0, 3, 4, 5), (0, 0, 0, 13);
    #   (0, 3, 4, 7), (0, 0, 0, 15);  (0, 3, 4, 9), (0, 0, 0, 17);   (0, 3, 4, 11), (0, 0, 0, 19);
    #   (0, 3, 4, 13), (1, 0, 0, 20); (0, 3, 4, 14), (2, 0, 0, 20).
    FLOODS = [(1, 0, 0), (8, 5, 0)]

    def assert_looked(self, ask, told):
        """The answer of the years that are looked through, whatever lies on the other side."""
        state = empty(self.HOUSE)
        full = ((20, 0, 0), ((9,) * 5,) * 3)
        more = [(2, 3, 4), (99, 5, 1)]
        self.assert_told(look_ever, self.HOUSE, state, state, self.FLOODS, self.FLOODS, ask, told=told)
        if ask[2] == "least":
            self.assert_told(look_ever, self.HOUSE, state, full, self.FLOODS, more, ask, told=told)
        else:
            less = [(0, 0, 0), (8, 1, 0)]
            self.assert_told(look_ever, self.HOUSE, state, state, less, self.FLOODS, ask, told=told)

    def test_the_pages_are_as_told(self):
        state = empty(self.HOUSE)
        self.assertEqual(len(ever(self.HOUSE, state, self.FLOODS)) - 1, 8)
        rows = [page[0][2:] for page in run(self.HOUSE, state, 0, self.FLOODS * 8)[0]]
        self.assertEqual([row[3] for row in rows[:12]], [1, 9, 3, 11, 5, 13, 7, 15, 9, 17, 11, 19])
        self.assertEqual(rows[12:], [(0, 3, 4, 13), (1, 0, 0, 20), (0, 3, 4, 14), (2, 0, 0, 20)])

    def test_lies(self):
        self.assert_looked(("lies", 0, "least", 1), ("kept", 0, 1))
        self.assert_looked(("lies", 0, "least", 2), ("broken", 0, 1))
        for number, told in ((0, (0, 1)), (8, (1, 9)), (9, (3, 11)), (18, (11, 19)), (19, (13, 20))):
            self.assert_looked(("lies", 0, "most", number), ("broken",) + told)
        self.assert_looked(("lies", 0, "most", 20), ("kept", 13, 20))

    def test_spilled(self):
        self.assert_looked(("spilled", 0, "least", 0), ("kept", 0, 0))
        self.assert_looked(("spilled", 0, "least", 1), ("broken", 0, 0))
        self.assert_looked(("spilled", 0, "most", 0), ("broken", 13, 1))
        self.assert_looked(("spilled", 0, "most", 1), ("broken", 15, 2))
        self.assert_looked(("spilled", 0, "most", 2), ("kept", 15, 2))

    def test_let_and_pumped(self):
        for what, found in (("let", 3), ("pumped", 4)):
            self.assert_looked((what, 0, "least", 0), ("kept", 0, 0))
            self.assert_looked((what, 0, "least", 1), ("broken", 0, 0))
            self.assert_looked((what, 0, "most", 0), ("broken", 2, found))
            self.assert_looked((what, 0, "most", found - 1), ("broken", 2, found))
            self.assert_looked((what, 0, "most", found), ("kept", 2, found))

    def test_took(self):
        # Of the town: 0, 5, then 3 and 5 each year, 6 and 7 where the basin spills.
        self.assert_looked(("took", 1, "least", 0), ("kept", 0, 0))
        self.assert_looked(("took", 1, "least", 1), ("broken", 0, 0))
        self.assert_looked(("took", 1, "most", 4), ("broken", 1, 5))
        self.assert_looked(("took", 1, "most", 5), ("broken", 13, 6))
        self.assert_looked(("took", 1, "most", 6), ("broken", 15, 7))
        self.assert_looked(("took", 1, "most", 7), ("kept", 15, 7))

    def test_least_broken_in_a_later_year(self):
        house = house_of(basin("a", brim=20, rule=((0, ((6, 3, "river"),)),)), year=2)
        full = start(house, (20,))
        floods = [(1,), (0,)]
        # 20; 18, 15; 13, 10; 8, 6; 6, 6; 6, 6.
        for number, told in ((19, ("broken", 0, 18)), (16, ("broken", 1, 15)), (15, ("broken", 2, 13)),
                             (8, ("broken", 5, 6)), (7, ("broken", 5, 6)), (6, ("kept", 5, 6)), (-1, ("kept", 5, 6))):
            self.assert_told(look_ever, house, full, full, floods, floods, ("lies", 0, "least", number), told=told)
        for number, told in ((3, ("broken", 5, 2)), (2, ("broken", 6, 1))):
            self.assert_told(look_ever, house, full, full, floods, floods, ("let", 0, "least", number), told=told)

    def test_least_of_each_what_as_the_water_runs_out(self):
        house = house_of(
            basin("a", "b", 0, 3, ((0, ((0, 2, "river"), (2, 2, "pump"))),), ("c", 1, 2)), town("b", need=6), mill("c"),
            year=2,
        )
        low = ((3, 0, 0), coming_of(3, p0=(9, 9, 9, 9, 0)))
        high = ((3, 0, 0), ((9,) * 5,) * 3)
        # What is spilled, let, pumped, kept and taken by the town: 5, 2, 2, 3, 6 for two years; 0, 2, 1, 0, 2; then 0.
        for what, number, told in (
            ("lies", 4, ("broken", 0, 3)), ("lies", 3, ("broken", 4, 0)), ("lies", 0, ("kept", 4, 0)),
            ("spilled", 6, ("broken", 0, 5)), ("spilled", 5, ("broken", 4, 0)), ("spilled", 0, ("kept", 4, 0)),
            ("let", 3, ("broken", 0, 2)), ("let", 2, ("broken", 5, 0)), ("let", 0, ("kept", 5, 0)),
            ("pumped", 3, ("broken", 0, 2)), ("pumped", 2, ("broken", 4, 1)), ("pumped", 1, ("broken", 5, 0)),
            ("pumped", 0, ("kept", 5, 0)), ("took", 7, ("broken", 0, 6)), ("took", 6, ("broken", 4, 2)),
            ("took", 2, ("broken", 5, 0)), ("took", 0, ("kept", 5, 0)),
        ):
            ask = (what, 1 if what == "took" else 0, "least", number)
            floods = [(0, 0, 0), (0, 0, 0)]
            self.assert_told(look_ever, house, low, high, floods, [(1, 2, 3), (4, 5, 6)], ask, 4, told=told)

    def test_broken_only_in_the_last_year(self):
        for brim in (6, 7, 8, 9):
            house = filling(brim)
            floods = [(2,)]
            years = len(ever(house, empty(house), floods)) - 1
            for number, told in (
                (0, ("broken", brim // 2, 2 - brim % 2)), (1, ("broken", brim // 2 + brim % 2, 2)),
                (2, ("kept", brim // 2 + brim % 2, 2)),
            ):
                ask = ("spilled", 0, "most", number)
                self.assert_told(look_ever, house, empty(house), empty(house), floods, floods, ask, years, told=told)
            # The year in which all 2 are spilled is the last one that is run.
            self.assertEqual(brim // 2 + brim % 2, years - 1)

    def test_the_circle_is_looked_through_once(self):
        house = circling(2, 3)
        state = start(house, (4, 0))
        for place, when in ((0, 0), (1, 2)):
            ask = ("pumped", place, "most", 4)
            self.assert_told(look_ever, house, state, state, [(0, 0)], [(0, 0)], ask, told=("kept", when, 4))
            ask = ("pumped", place, "most", 3)
            self.assert_told(look_ever, house, state, state, [(0, 0)], [(0, 0)], ask, told=("broken", when, 4))
        ask = ("pumped", 0, "least", 1)
        self.assert_told(look_ever, house, state, state, [(0, 0)], [(0, 0)], ask, told=("broken", 1, 0))

    def test_forty_figures(self):
        house = house_of(basin("a", brim=GREAT, rule=SHUT))
        low, high = start(house, (0,)), start(house, (GREAT,))
        ask = ("spilled", 0, "most", GREAT)
        self.assert_told(look_ever, house, low, high, [(0,)], [(GREAT,)], ask, told=("kept", 0, GREAT))
        ask = ("lies", 0, "least", 1)
        self.assert_told(look_ever, house, low, high, [(0,)], [(GREAT,)], ask, told=("broken", 0, 0))


class Refusals(Told):
    # A basin at place 0, a town at 1, a mill at 2.
    HOUSE = house_of(basin("a", "b", 0, 9, SHUT), town("b"), mill("c"), year=2)
    GOOD = ("lies", 0, "least", 1)
    FLOODS = [(1, 1, 1), (0, 2, 0)]
    FULL = start(HOUSE, (9, 0, 0))

    def bad_bounds(self):
        """States and rows that bound nothing."""
        state = empty(self.HOUSE)
        floods = self.FLOODS
        ahead = ((0, 0, 0), coming_of(3, p2=(0, 0, 0, 0, 1)))
        bounds = [(self.FULL, state, floods, floods), (ahead, state, floods, floods)]
        bounds.append((ahead, self.FULL, floods, floods))
        for lows, highs in (
            ([], []), (floods[:1], floods[:1]), (floods + floods, floods + floods), (floods, floods[:1]),
            (floods[:1], floods), (floods, floods + floods), ([], floods), (floods, []),
            (floods, [(1, 1, 1), (0, 1, 0)]), (floods, [(1, 1, 0), (0, 2, 9)]), (floods, [(0, 1, 1), (9, 9, 9)]),
        ):
            bounds.append((state, self.FULL, lows, highs))
        return bounds

    def test_no_ask_goes_first(self):
        asks = [
            ("came", 0, "least", 1), ("", 1, "most", 1), ("lies", 0, "more", 1), ("took", 1, "", 1),
            ("lies", -1, "least", 1), ("took", -2, "most", 1), ("lies", 3, "least", 1), ("lies", -3, "most", 1),
            ("took", 0, "most", 1), ("took", 2, "least", 1), ("lies", 1, "least", 1), ("spilled", 2, "most", 1),
            ("let", 1, "least", 1), ("pumped", 2, "most", 1), ("let", 2, "most", 1), ("pumped", 1, "least", 1),
        ]
        good = (empty(self.HOUSE), self.FULL, self.FLOODS, self.FLOODS)
        for ask in asks:
            for bounds in [good] + self.bad_bounds():
                self.assert_refused(NoAsk, [], look_ever, self.HOUSE, *bounds, ask)
                self.assert_refused(NoAsk, [], look_ever, self.HOUSE, *bounds, ask, 0)

    def test_then_no_bounds(self):
        for bounds in self.bad_bounds():
            for ask in (self.GOOD, ("lies", 0, "most", 1), ("took", 1, "least", 1), ("took", 1, "most", 9)):
                self.assert_refused(NoBounds, [], look_ever, self.HOUSE, *bounds, ask)
                for most in (0, 1, 200):
                    self.assert_refused(NoBounds, [], look_ever, self.HOUSE, *bounds, ask, most)

    def test_then_too_long_even_where_the_first_turn_breaks_it(self):
        bounds = (empty(self.HOUSE), self.FULL, self.FLOODS, self.FLOODS)
        for ask in (self.GOOD, ("lies", 0, "least", 99), ("lies", 0, "most", 0), ("took", 1, "most", 9)):
            self.assert_refused(TooLong, [0], look_ever, self.HOUSE, *bounds, ask, 0)
        self.assertIsNone(raised(look_ever, self.HOUSE, *bounds, self.GOOD))

    def test_too_long_by_the_years_that_are_looked_through(self):
        house = filling(10)
        low, high = empty(house), start(house, (10,))
        # From the lower state with 3 each year 5 years must be run, from the higher one with 4 only one.
        for most in range(7):
            least = (house, low, high, [(3,)], [(4,)], ("lies", 0, "least", 3), most)
            if most < 5:
                self.assert_refused(TooLong, [most], look_ever, *least)
            else:
                self.assert_told(look_ever, *least, told=("kept", 0, 3))
            highest = (house, low, high, [(3,)], [(4,)], ("lies", 0, "most", 10), most)
            if most < 1:
                self.assert_refused(TooLong, [most], look_ever, *highest)
            else:
                self.assert_told(look_ever, *highest, told=("kept", 0, 10))
        # From the lower state with nothing only one, from the higher one with 2 each year 4.
        for most in range(6):
            least = (house, low, start(house, (4,)), [(0,)], [(2,)], ("lies", 0, "least", 0), most)
            if most < 1:
                self.assert_refused(TooLong, [most], look_ever, *least)
            else:
                self.assert_told(look_ever, *least, told=("kept", 0, 0))
            highest = (house, low, start(house, (4,)), [(0,)], [(2,)], ("lies", 0, "most", 10), most)
            if most < 4:
                self.assert_refused(TooLong, [most], look_ever, *highest)
            else:
                self.assert_told(look_ever, *highest, told=("kept", 2, 10))

    def test_most_left_out_is_100(self):
        ask = ("lies", 0, "most", 200)
        house = filling(99)
        self.assert_told(look_ever, house, empty(house), empty(house), [(1,)], [(1,)], ask, told=("kept", 98, 99))
        house = filling(100)
        self.assert_refused(TooLong, [100], look_ever, house, empty(house), empty(house), [(1,)], [(1,)], ask)
        told = look_ever(house, empty(house), empty(house), [(1,)], [(1,)], ask, most=101)
        self.assertEqual(told, ("kept", 99, 100))


class ForEver(Told):
    def bounds(self, chance):
        house, low, lows = small_years(chance)
        house, high, at, highs = richer_run(chance, house, low, 0, lows)
        return (house, low, high, lows, highs)

    def test_by_words(self):
        chance = random.Random(261)
        answers = {"kept": 0, "broken": 0, "late": 0}
        for number in range(250):
            house, low, high, lows, highs = self.bounds(chance)
            for sense, state, floods in (("least", low, lows), ("most", high, highs)):
                states, pages = years_by_words(house, state, floods, 12)
                ask = random_ask(chance, house, pages or [])
                if ask is None:
                    continue
                ask = ask[:2] + (sense, ask[3])
                handed = (house, low, high, lows, highs, ask, 12)
                if states is None:
                    self.assert_refused(TooLong, [12], look_ever, *handed)
                    continue
                told = answer_by_words(pages, ask)
                self.assert_told(look_ever, *handed, told=told)
                years = len(states) - 1
                self.assert_told(look, house, low, high, 0, lows * years, highs * years, ask, told=told)
                answers[told[0]] += 1
                answers["late"] += told[1] >= house[0]
        self.assertGreater(min(answers.values()), 20)

    def test_what_is_told_holds_for_ever(self):
        chance = random.Random(262)
        for number in range(100):
            house, low, high, lows, highs = self.bounds(chance)
            ask = random_ask(chance, house, run(house, low, 0, lows)[0] + run(house, high, 0, highs)[0])
            if ask is None or raised(look_ever, house, low, high, lows, highs, ask):
                continue
            what, place, sense, asked = ask
            word, when, found = look_ever(house, low, high, lows, highs, ask)
            state, floods = (low, lows) if sense == "least" else (high, highs)
            with self.subTest(house=house, low=low, high=high, lows=lows, highs=highs, ask=ask):
                if word == "broken":
                    pages = run(house, state, 0, floods * (when // house[0] + 1))[0]
                    self.assertEqual(pages[when][place][PARTS[what]], found)
                    self.assertTrue(found < asked if sense == "least" else found > asked)
                    continue
                between = [cubes_between(chance, *pair) for year in range(30) for pair in zip(lows, highs)]
                for one, row in ((state, floods * 30), (state_between(chance, low, high), between)):
                    for page in run(house, one, 0, row)[0]:
                        cubes = page[place][PARTS[what]]
                        self.assertTrue(cubes >= found >= asked if sense == "least" else cubes <= found <= asked)

    def test_what_is_handed_in_may_change_later(self):
        house = house_of(*line(), year=4)
        rows = [(20, 20, 20, 20, 20)] * 4
        told = look_ever(house, empty(house), empty(house), rows, rows, ("lies", 0, "most", 99))
        kept = copy.deepcopy(told)
        rows.clear()
        self.assertEqual(told, kept)

    def test_wide_houses_and_long_years(self):
        names = "abcdefghijkl"
        downs = list(names[1:]) + ["sea"]
        house = house_of(*[basin(name, down, 5, 10 ** 9, WIDE) for name, down in zip(names, downs)], year=24)
        state = empty(house)
        floods = [(1,) * 12] * 24
        # What comes to the first place is at the last one 55 turns later: from the third year's end on all is alike.
        self.assertEqual(len(ever(house, state, floods)), 5)
        ask = ("let", 11, "most", 12)
        self.assert_told(look_ever, house, state, state, floods, floods, ask, told=("kept", 55, 12))


if __name__ == "__main__":
    unittest.main()
