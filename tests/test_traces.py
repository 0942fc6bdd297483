"""Traces: what becomes of each rain of a run [2, 3, 21].

A trace is (TURN, PLACE, WORD, WHERE, WHEN, CUBES): of the rain (TURN, PLACE) so many cubes.
"""

import collections
import copy
import random
import unittest

from builders import (
    GREAT, QUIET, SHUT, WIDE, basin, behind_by_words, coming_of, empty, gone_of, house_of, line, mill, page_by_words,
    random_cubes, random_run, town, water_of,
)
from sluiceway.books import books
from sluiceway.traces import traces
from sluiceway.turns import run, start

WORDS = ("coming", "gone", "lies", "took")


def traces_by_words(house, state, at, floods):
    """The traces, each cube a thing of its own that bears its rain."""
    names = [place[1] for place in house[1]]
    lying = [[(-1, number)] * level for number, level in enumerate(state[0])]
    coming = collections.defaultdict(list)
    for number, ahead in enumerate(state[1]):
        for when, cubes in enumerate(ahead):
            coming[(number, when)] += [(-1, number)] * cubes
    told = collections.Counter()
    for when, flood in enumerate(floods):
        page = page_by_words(house, state, at + when, flood)
        state = behind_by_words(house, state, page)
        for number, place in enumerate(house[1]):
            here = sorted(lying[number] + coming.pop((number, when), []) + [(when, number)] * flood[number])
            came, took, spilled, let, pumped, lies = page[number]
            # A town takes the first, of a basin the first go by the river, the next by the pump, the next are spilled.
            ends = [took, took + let, took + let + pumped, took + let + pumped + spilled]
            by_river = here[ends[0]:ends[1]] + here[ends[2]:ends[3]]
            told.update([rain + ("took", number, when) for rain in here[:ends[0]]])
            if place[2] == "sea":
                told.update([rain + ("gone", number, when) for rain in by_river])
            else:
                coming[(names.index(place[2]), when + place[3])] += by_river
            if pumped > 0:
                coming[(names.index(place[6][0]), when + place[6][1])] += here[ends[1]:ends[2]]
            lying[number] = here[ends[3]:]
            assert len(lying[number]) == lies
    for number, rains in enumerate(lying):
        told.update([rain + ("lies", number, len(floods)) for rain in rains])
    for (number, when), rains in coming.items():
        told.update([rain + ("coming", number, when) for rain in rains])
    return sorted([trace + (cubes,) for trace, cubes in told.items()])


class Traced(unittest.TestCase):
    def assert_traces(self, house, state, floods, told, at=0):
        handed = (house, state, at, floods)
        before = repr(handed)
        with self.subTest(house=house, state=state, at=at, floods=floods):
            # The words of things tell tuples from lists, and numbers from truths.
            self.assertEqual(repr(traces(*handed)), repr(told))
            self.assertEqual(repr(handed), before)


class NoTurns(Traced):
    def test_nothing(self):
        for house in (house_of(mill("a")), house_of(*line(), year=4)):
            for at in (0, 3, 99):
                self.assert_traces(house, empty(house), [], [], at)

    def test_what_lies_and_what_is_on_its_way(self):
        house = house_of(basin("a", "b", 0, 9, WIDE), town("b"), basin("c", brim=9, rule=SHUT))
        state = ((4, 0, 7), coming_of(3, p0=(0, 2, 0, 0, 0), p1=(1, 0, 0, 0, 5)))
        self.assert_traces(house, state, [], [
            (-1, 0, "coming", 0, 1, 2), (-1, 0, "lies", 0, 0, 4), (-1, 1, "coming", 1, 0, 1),
            (-1, 1, "coming", 1, 4, 5), (-1, 2, "lies", 2, 0, 7),
        ])


class WhatWasThereAtTheFirst(Traced):
    def test_what_lay(self):
        house = house_of(basin("a", "b", 0, 9, ((0, ((0, 3, "river"),)),)), basin("b", brim=20, rule=SHUT))
        self.assert_traces(house, start(house, (5, 2)), [(0, 0)], [
            (-1, 0, "lies", 0, 1, 2), (-1, 0, "lies", 1, 1, 3), (-1, 1, "lies", 1, 1, 2),
        ])

    def test_what_was_on_its_way_bears_the_place_to_which_it_comes(self):
        house = house_of(mill("a", "b"), town("b", need=2), mill("c"))
        state = ((0, 0, 0), coming_of(3, p0=(1, 2, 3, 4, 5), p1=(0, 1, 0, 0, 0), p2=(9, 0, 0, 0, 8)))
        self.assert_traces(house, state, [(0, 0, 0), (0, 0, 0)], [
            (-1, 0, "coming", 0, 2, 3), (-1, 0, "coming", 0, 3, 4), (-1, 0, "coming", 0, 4, 5),
            (-1, 0, "took", 1, 0, 1), (-1, 0, "took", 1, 1, 2), (-1, 1, "gone", 1, 1, 1),
            (-1, 2, "coming", 2, 4, 8), (-1, 2, "gone", 2, 0, 9),
        ])

    def test_what_lay_and_what_came_to_the_same_place_are_one_rain(self):
        house = house_of(basin("a", brim=5, rule=SHUT))
        state = ((3,), ((4, 0, 6, 0, 0),))
        self.assert_traces(house, state, [(0,)], [
            (-1, 0, "coming", 0, 2, 6), (-1, 0, "gone", 0, 0, 2), (-1, 0, "lies", 0, 1, 5),
        ])

    def test_each_number_on_its_way_comes_in_its_turn(self):
        house = house_of(town("a", need=100))
        state = ((0,), ((1, 2, 3, 4, 5),))
        self.assert_traces(house, state, [(0,)] * 7, [(-1, 0, "took", 0, when, when + 1) for when in range(5)])


class OneTurn(Traced):
    def test_a_flood_is_a_rain_of_its_turn_and_place(self):
        house = house_of(mill("a"), town("b", need=3), basin("c", brim=4, rule=SHUT), mill("d", "sea", 5))
        told = [(0, 0, "gone", 0, 0, 1), (0, 1, "gone", 1, 0, 2), (0, 1, "took", 1, 0, 3)]
        told += [(0, 2, "gone", 2, 0, 5), (0, 2, "lies", 2, 1, 4), (0, 3, "gone", 3, 0, 2)]
        self.assert_traces(house, empty(house), [(1, 5, 9, 2)], told)
        self.assert_traces(house, empty(house), [(1, 5, 9, 2)], told, at=77)

    def test_rains_at_a_town_by_place(self):
        house = house_of(mill("a", "d"), mill("b", "d"), mill("c", "d"), town("d", need=7))
        self.assert_traces(house, empty(house), [(3, 2, 4, 5)], [
            (0, 0, "took", 3, 0, 3), (0, 1, "took", 3, 0, 2), (0, 2, "gone", 3, 0, 2), (0, 2, "took", 3, 0, 2),
            (0, 3, "gone", 3, 0, 5),
        ])

    def test_rains_at_a_town_by_turn_ahead_of_place(self):
        house = house_of(mill("a", "b"), town("b", need=4))
        state = ((0, 0), (QUIET, (3, 0, 0, 0, 0)))
        self.assert_traces(house, state, [(5, 5)], [
            (-1, 1, "took", 1, 0, 3), (0, 0, "gone", 1, 0, 4), (0, 0, "took", 1, 0, 1), (0, 1, "gone", 1, 0, 5),
        ])

    def test_a_basin_that_lets_pumps_spills_and_keeps(self):
        rule = ((0, ((0, 4, "pump"), (4, 5, "river"))),)
        house = house_of(basin("a", "b", 0, 6, rule, ("c", 2, 4)), basin("b", brim=99, rule=SHUT), mill("c"))
        # Of 22 cubes the first 5 are let, the next 4 pumped, the next 7 spilled, the last 6 lie.
        state = ((3, 0, 0), coming_of(3, p0=(1, 0, 0, 0, 0)))
        self.assert_traces(house, state, [(18, 0, 0)], [
            (-1, 0, "lies", 1, 1, 4), (0, 0, "coming", 2, 2, 4), (0, 0, "lies", 0, 1, 6), (0, 0, "lies", 1, 1, 8),
        ])

    def test_in_a_basin_the_first_are_let_the_next_pumped_the_next_spilled(self):
        rule = ((0, ((0, 2, "pump"), (2, 2, "river"))),)
        lower = basin("e", "f", 0, 2, rule, ("f", 1, 2))
        house = house_of(mill("a", "e"), mill("b", "e"), mill("c", "e"), mill("d", "e"), lower, mill("f", "sea", 1))
        self.assert_traces(house, empty(house), [(2, 2, 2, 2, 0, 0)], [
            (0, 0, "gone", 5, 0, 2), (0, 1, "coming", 5, 1, 2), (0, 2, "gone", 5, 0, 2), (0, 3, "lies", 4, 1, 2),
        ])

    def test_the_parts_of_one_rain_that_fare_alike_are_told_once(self):
        rule = ((0, ((0, 2, "river"),)),)
        house = house_of(basin("a", brim=3, rule=rule))
        self.assert_traces(house, empty(house), [(9,)], [(0, 0, "gone", 0, 0, 6), (0, 0, "lies", 0, 1, 3)])
        pump = ((0, ((0, 2, "pump"), (2, 2, "river"))),)
        house = house_of(basin("a", "b", 1, 3, pump, ("b", 1, 2)), mill("b"))
        self.assert_traces(house, empty(house), [(9, 0)], [(0, 0, "coming", 1, 1, 6), (0, 0, "lies", 0, 1, 3)])

    def test_several_basins_and_reaches_one_below_the_other_without_delay(self):
        house = house_of(
            town("a", "b", 0, 2, 1), basin("b", "d", 0, 3, SHUT), mill("c", "d"), town("d", "e", 0, 3, 1),
            basin("e", "f", 0, 2, SHUT), town("f", "sea", 0, 1, 0),
        )
        state = start(house, (0, 3, 0, 0, 0, 0))
        # Of the first town's 6 cubes 4 come to the basin, whose own 3 go on, and 1 of them; 4 more come by the mill.
        self.assert_traces(house, state, [(6, 0, 4, 0, 1, 0)], [
            (-1, 1, "took", 3, 0, 3), (0, 0, "lies", 1, 1, 3), (0, 0, "took", 0, 0, 2), (0, 0, "took", 5, 0, 1),
            (0, 2, "gone", 5, 0, 3), (0, 2, "lies", 4, 1, 1), (0, 4, "lies", 4, 1, 1),
        ])


class ManyTurns(Traced):
    def test_mixed_in_one_basin(self):
        rule = ((0, ()), (3, ((0, 99, "river"),)))
        house = house_of(mill("a", "b", 1), basin("b", brim=9, rule=rule), year=4)
        floods = [(2, 3), (1, 0), (0, 4), (0, 0)]
        self.assert_traces(house, empty(house), floods[:3], [
            (0, 0, "gone", 1, 2, 1), (0, 0, "lies", 1, 3, 1), (0, 1, "lies", 1, 3, 3), (1, 0, "lies", 1, 3, 1),
            (2, 1, "lies", 1, 3, 4),
        ])
        self.assert_traces(house, empty(house), floods, [
            (0, 0, "gone", 1, 2, 1), (0, 0, "gone", 1, 3, 1), (0, 1, "gone", 1, 3, 3), (1, 0, "gone", 1, 3, 1),
            (2, 1, "gone", 1, 3, 4),
        ])

    def test_mixed_in_one_town(self):
        house = house_of(mill("a", "c", 2), mill("b", "c", 1), town("c", "d", 0, 4), mill("d"))
        floods = [(3, 0, 0, 0), (0, 2, 0, 0), (0, 0, 5, 7)]
        self.assert_traces(house, empty(house), floods, [
            (0, 0, "took", 2, 2, 3), (1, 1, "gone", 3, 2, 1), (1, 1, "took", 2, 2, 1), (2, 2, "gone", 3, 2, 5),
            (2, 3, "gone", 3, 2, 7),
        ])

    def test_mixed_in_one_mill(self):
        house = house_of(mill("a", "c", 2), mill("b", "c", 1), mill("c", "d", 1), mill("d"))
        floods = [(3, 0, 0, 0), (0, 2, 0, 0), (0, 0, 5, 7), (0, 0, 0, 0)]
        self.assert_traces(house, empty(house), floods, [
            (0, 0, "gone", 3, 3, 3), (1, 1, "gone", 3, 3, 2), (2, 2, "gone", 3, 3, 5), (2, 3, "gone", 3, 2, 7),
        ])

    def test_an_older_rain_that_comes_late_goes_first(self):
        house = house_of(mill("a", "b", 3), basin("b", brim=4, rule=SHUT))
        floods = [(2, 0), (0, 3), (0, 1), (0, 1)]
        self.assert_traces(house, empty(house), floods, [
            (0, 0, "gone", 1, 3, 2), (1, 1, "gone", 1, 3, 1), (1, 1, "lies", 1, 4, 2), (2, 1, "lies", 1, 4, 1),
            (3, 1, "lies", 1, 4, 1),
        ])

    def test_rivers_with_every_delay(self):
        for delay in range(6):
            house = house_of(mill("a", "b", delay), basin("b", brim=99, rule=SHUT))
            for turns in range(1, 8):
                floods = [(6, 0)] + [(0, 0)] * (turns - 1)
                there = ("lies", 1, turns, 6) if delay < turns else ("coming", 1, delay, 6)
                self.assert_traces(house, empty(house), floods, [(0, 0) + there])

    def test_what_leaves_later_comes_later(self):
        house = house_of(mill("a", "b", 4), mill("b"))
        floods = [(0, 0), (3, 0), (2, 0)]
        self.assert_traces(house, empty(house), floods, [(1, 0, "coming", 1, 5, 3), (2, 0, "coming", 1, 6, 2)])

    def test_pumps_with_every_delay_ahead_and_behind(self):
        rule = ((0, ((0, 5, "pump"),)),)
        for delay in range(1, 6):
            for to, number in (("a", 0), ("c", 2)):
                house = house_of(town("a", need=9), basin("b", "sea", 0, 9, rule, (to, delay, 5)), town("c", need=9))
                self.assert_traces(house, empty(house), [(0, 5, 0)], [(0, 1, "coming", number, delay, 5)])
                floods = [(0, 5, 0)] + [(0, 0, 0)] * delay
                self.assert_traces(house, empty(house), floods, [(0, 1, "took", number, delay, 5)])

    def test_water_pumped_back_is_older_than_what_comes_there(self):
        rule = ((0, ((0, 4, "pump"),)),)
        house = house_of(town("a", "b", 0, 3), basin("b", "sea", 0, 9, rule, ("a", 1, 4)))
        # Turn 1: 4 old and 5 new cubes at the town, 3 old ones taken, 1 old and 5 new ones reach the basin, of which
        # the old one and 3 new ones are pumped and 2 lie. Turn 2: 4 and 2 cubes at the town, of which the old one and
        # 2 of turn 1 are taken, 1 of turn 1 and 2 of turn 2 go on, to 2 of turn 1: 4 are pumped, 1 lies.
        self.assert_traces(house, start(house, (0, 4)), [(0, 0), (5, 0), (2, 0)], [
            (-1, 1, "took", 0, 1, 3), (-1, 1, "took", 0, 2, 1), (1, 0, "coming", 0, 3, 3), (1, 0, "took", 0, 2, 2),
            (2, 0, "coming", 0, 3, 1), (2, 0, "lies", 1, 3, 1),
        ])

    def test_gone_to_the_sea_in_the_turn_in_which_it_leaves(self):
        for delay in range(6):
            house = house_of(
                mill("a", "sea", delay), town("b", "sea", delay, 1), basin("c", "sea", delay, 2, SHUT),
            )
            self.assert_traces(house, empty(house), [(1, 3, 5), (2, 0, 4)], [
                (0, 0, "gone", 0, 0, 1), (0, 1, "gone", 1, 0, 2), (0, 1, "took", 1, 0, 1), (0, 2, "gone", 2, 0, 3),
                (0, 2, "gone", 2, 1, 2), (1, 0, "gone", 0, 1, 2), (1, 2, "gone", 2, 1, 2), (1, 2, "lies", 2, 2, 2),
            ])

    def test_the_runs_first_turn_is_0_whatever_at(self):
        rule = ((0, ()), (1, ((0, 3, "river"),)))
        house = house_of(basin("a", "sea", 0, 9, rule), year=2)
        for at in (0, 2, 10 ** 30):
            self.assert_traces(house, empty(house), [(5,), (1,)], [
                (0, 0, "gone", 0, 1, 3), (0, 0, "lies", 0, 2, 2), (1, 0, "lies", 0, 2, 1),
            ], at)
        for at in (1, 3, 10 ** 30 + 1):
            self.assert_traces(house, empty(house), [(5,), (1,)], [
                (0, 0, "gone", 0, 0, 3), (0, 0, "lies", 0, 2, 2), (1, 0, "lies", 0, 2, 1),
            ], at)

    def test_forty_figures(self):
        rule = ((0, ((0, 10 ** 39, "river"), (10 ** 39, 10 ** 38, "pump"))),)
        house = house_of(basin("a", "b", 0, GREAT, rule, ("b", 2, 10 ** 38)), town("b", need=10 ** 38))
        let, pumped, need = 10 ** 39, 10 ** 38, 10 ** 38
        floods = [(GREAT, 0), (0, 0), (0, GREAT)]
        self.assert_traces(house, start(house, (GREAT, 0)), floods, [
            # Turn 0: of the older rain some is pumped, all the rest is let or spilled.
            (-1, 0, "gone", 1, 0, GREAT - pumped - need), (-1, 0, "took", 1, 0, need), (-1, 0, "took", 1, 2, pumped),
            # Turns 1 and 2: of the younger rain so much is let and pumped each time.
            (0, 0, "coming", 1, 3, pumped), (0, 0, "coming", 1, 4, pumped), (0, 0, "gone", 1, 1, let - need),
            (0, 0, "gone", 1, 2, let), (0, 0, "lies", 0, 3, GREAT - 2 * let - 2 * pumped), (0, 0, "took", 1, 1, need),
            (2, 1, "gone", 1, 2, GREAT),
        ])

    def test_two_hundred_turns_of_many_rains(self):
        chance = random.Random(211)
        rule = ((0, ((0, 10 ** 30, "river"), (10 ** 38, 10 ** 31, "pump"))),)
        names = "abcdefghijkl"
        downs = list(names[1:]) + ["sea"]
        pumps = [(names[(number + 7) % 12], 5, 10 ** 31) for number in range(12)]
        house = house_of(*[
            basin(name, down, number % 6, GREAT, rule, pump)
            for number, (name, down, pump) in enumerate(zip(names, downs, pumps))
        ], year=24)
        floods = [tuple([chance.randrange(10 ** 37) for name in names]) for number in range(200)]
        assert_comes_out(self, house, start(house, (10 ** 38,) * 12), 5, floods)


def assert_comes_out(case, house, state, at, floods):
    """The traces are sorted, and come to what came, to the pages, the books and the state behind."""
    told = traces(house, state, at, floods)
    pages, behind = run(house, state, at, floods)
    case.assertEqual(told, sorted(told))
    case.assertEqual(len({trace[:5] for trace in told}), len(told))
    case.assertEqual([trace for trace in told if trace[5] <= 0 or trace[2] not in WORDS], [])
    came = {(when, number): cubes for when, flood in enumerate(floods) for number, cubes in enumerate(flood)}
    came.update({(-1, number): level + sum(state[1][number]) for number, level in enumerate(state[0])})
    sums = collections.Counter()
    rains = collections.Counter()
    for turn_number, number, word, where, when, cubes in told:
        sums[(word, where, when)] += cubes
        rains[(turn_number, number)] += cubes
    case.assertEqual(dict(rains), {rain: cubes for rain, cubes in came.items() if cubes > 0})
    due = {}
    for when, page in enumerate(pages):
        for number, row in enumerate(page):
            due[("took", number, when)] = row[1]
            due[("gone", number, when)] = row[2] + row[3] if house[1][number][2] == "sea" else 0
    for number, level in enumerate(behind[0]):
        due[("lies", number, len(pages))] = level
        for ahead, cubes in enumerate(behind[1][number]):
            due[("coming", number, len(pages) + ahead)] = cubes
    case.assertEqual(dict(sums), {thing: cubes for thing, cubes in due.items() if cubes > 0})
    by_word = collections.Counter()
    for word, where, when in sums:
        by_word[word] += sums[(word, where, when)]
    case.assertEqual(sum([gone_of(house, page) for page in pages]), by_word["gone"])
    lie = by_word["lies"] + by_word["coming"]
    case.assertEqual(lie, water_of(behind))
    case.assertEqual(books(house, state, at, floods)[2:], (by_word["took"], by_word["gone"], lie))


class ByChance(Traced):
    def test_cube_by_cube(self):
        chance = random.Random(212)
        words = collections.Counter()
        for number in range(300):
            house, state, at, floods = random_run(chance)
            told = traces_by_words(house, state, at, floods)
            self.assert_traces(house, state, floods, told, at)
            words.update([trace[2] for trace in told])
        self.assertEqual(sorted(words), list(WORDS))
        self.assertGreater(min(words.values()), 100)

    def test_each_cube_is_told_once(self):
        chance = random.Random(213)
        for number in range(300):
            house, state, at, floods = random_run(chance)
            with self.subTest(house=house, state=state, at=at, floods=floods):
                assert_comes_out(self, house, state, at, floods)

    def test_a_run_cut_in_two(self):
        """What is told gone and taken of a run is told so of any longer one."""
        chance = random.Random(214)
        for number in range(50):
            house, state, at, floods = random_run(chance)
            longer = floods + [random_cubes(chance, len(house[1]))]
            ended = [trace for trace in traces(house, state, at, floods) if trace[2] in ("took", "gone")]
            later = [trace for trace in traces(house, state, at, longer) if trace[2] in ("took", "gone")]
            self.assertEqual(ended, [trace for trace in later if trace[4] < len(floods)])


class Lists(unittest.TestCase):
    def test_the_list_is_new_and_the_askers_own(self):
        house = house_of(*line(), year=4)
        state = start(house, (50, 0, 100, 0, 7))
        floods = [(20, 5, 0, 9, 3), (1, 1, 1, 1, 1)]
        for some in (floods, []):
            told = traces(house, state, 0, some)
            kept = copy.deepcopy(told)
            told[0] = "mine"
            told.append("mine")
            self.assertEqual(traces(house, state, 0, some), kept)

    def test_floods_changed_later_change_nothing(self):
        house = house_of(*line(), year=4)
        floods = [(20, 5, 0, 9, 3), (1, 1, 1, 1, 1)]
        told = traces(house, empty(house), 0, floods)
        kept = copy.deepcopy(told)
        floods[0] = (0, 0, 0, 0, 0)
        floods.append((9, 9, 9, 9, 9))
        self.assertEqual(told, kept)


if __name__ == "__main__":
    unittest.main()
