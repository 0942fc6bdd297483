"""Runs [2, 19], and what holds at every place and turn, over a run, and of two runs [3, 16 to 18].

Rows of pages are (CAME, TOOK, SPILLED, LET, PUMPED, LIES).
"""

import copy
import random
import unittest

from builders import (
    GREAT, basin, behind_by_words, gone_of, line, mill, page_by_words, random_cubes, random_run, richer_run,
    rights_by_words, town, water_of,
)
from sluiceway.houses import checked, down_of
from sluiceway.turns import rights, run, start, turn

CAME, TOOK, SPILLED, LET, PUMPED, LIES = range(6)


def states_of(house, state, at, floods):
    """The state ahead of each turn of a run, turn by turn, and that behind the last one."""
    states = [state]
    for number, flood in enumerate(floods):
        states.append(turn(house, states[-1], at + number, flood)[1])
    return states


class Runs(unittest.TestCase):
    HOUSE = checked((4, tuple(line())))

    def assert_run(self, house, state, at, floods):
        """A run is its turns, one behind the other; what is handed in stays."""
        before = copy.deepcopy((house, state, at, floods))
        pages, behind = run(house, state, at, floods)
        self.assertEqual((house, state, at, floods), before)
        told = []
        for number, flood in enumerate(floods):
            page, state = turn(house, state, at + number, flood)
            told.append(page)
        self.assertEqual((pages, behind), (told, state))

    def test_no_turns(self):
        state = start(self.HOUSE, (50, 0, 100, 0, 7))
        for at in (0, 1, 4, 199):
            self.assertEqual(run(self.HOUSE, state, at, []), ([], state))

    def test_one_turn(self):
        state = start(self.HOUSE, (50, 0, 100, 0, 7))
        flood = (20, 5, 0, 9, 3)
        for at in (0, 1, 2, 3, 4, 7):
            page, behind = turn(self.HOUSE, state, at, flood)
            self.assertEqual(run(self.HOUSE, state, at, [flood]), ([page], behind))

    def test_many_turns(self):
        rule = ((0, ((0, 2, "river"),)), (1, ((0, 9, "pump"),)), (2, ()))
        house = checked((3, (basin("a", "b", 1, 5, rule, ("c", 2, 9)), town("b", "c", 0, 1, 0), mill("c"))))
        pages, behind = run(house, start(house, (3, 0, 0)), 0, [(1, 0, 0), (4, 0, 0), (9, 0, 0), (0, 0, 0)])
        self.assertEqual(pages, [
            ((1, 0, 0, 2, 0, 2), (0,) * 6, (0,) * 6),
            ((4, 0, 0, 0, 6, 0), (2, 1, 0, 1, 0, 0), (1, 0, 0, 1, 0, 0)),
            ((9, 0, 4, 0, 0, 5), (0,) * 6, (0,) * 6),
            ((0, 0, 0, 2, 0, 3), (4, 1, 0, 3, 0, 0), (9, 0, 0, 9, 0, 0)),
        ])
        self.assertEqual(behind, ((3, 0, 0), ((0,) * 5, (2, 0, 0, 0, 0), (0,) * 5)))

    def test_the_first_turn_has_the_number_at(self):
        rule = ((0, ()), (1, ((0, 1, "river"),)), (2, ((0, 2, "river"),)))
        house = checked((3, (basin("a", brim=99, rule=rule),)))
        for at in range(9):
            pages, behind = run(house, start(house, (50,)), at, [(0,)] * 4)
            self.assertEqual([page[0][LET] for page in pages], [(at + number) % 3 for number in range(4)])

    def test_two_hundred_turns(self):
        chance = random.Random(19)
        floods = [random_cubes(chance, 5, 60) for number in range(200)]
        self.assert_run(self.HOUSE, start(self.HOUSE, (0, 0, 0, 0, 0)), 3, floods)

    def test_runs_by_chance(self):
        chance = random.Random(20)
        for number in range(100):
            self.assert_run(*random_run(chance))

    def test_pages_are_a_new_list_and_the_askers_own(self):
        state = start(self.HOUSE, (50, 0, 100, 0, 7))
        floods = [(20, 5, 0, 9, 3), (1, 1, 1, 1, 1)]
        told = run(self.HOUSE, state, 0, floods)
        self.assertIsInstance(told, tuple)
        self.assertIsInstance(told[0], list)
        kept = copy.deepcopy(told)
        told[0].append("mine")
        told[0][0] = "mine"
        self.assertEqual(run(self.HOUSE, state, 0, floods), kept)
        nothing = run(self.HOUSE, state, 0, [])[0]
        nothing.append("mine")
        self.assertEqual(run(self.HOUSE, state, 0, []), ([], state))

    def test_floods_changed_later_change_nothing(self):
        state = start(self.HOUSE, (50, 0, 100, 0, 7))
        floods = [(20, 5, 0, 9, 3), (1, 1, 1, 1, 1)]
        told = run(self.HOUSE, state, 0, floods)
        kept = copy.deepcopy(told)
        floods[0] = (0, 0, 0, 0, 0)
        floods.append((9, 9, 9, 9, 9))
        self.assertEqual(told, kept)


class ByWords(unittest.TestCase):
    def test_turns_by_chance(self):
        chance = random.Random(16)
        short = 0
        for number in range(500):
            house, state, at, floods = random_run(chance)
            for flood in floods or [(0,) * len(house[1])]:
                with self.subTest(house=house, state=state, at=at, flood=flood):
                    page = page_by_words(house, state, at, flood)
                    self.assertEqual(turn(house, state, at, flood), (page, behind_by_words(house, state, page)))
                    told = rights_by_words(house, state, at, flood)
                    self.assertEqual(rights(house, state, at, flood), told)
                    short += len([place for place in told if place is not None])
                state = behind_by_words(house, state, page)
                at += 1
        self.assertGreater(short, 100)


class Promises(unittest.TestCase):
    def test_no_cube_is_lost_or_made_at_a_place(self):
        chance = random.Random(3)
        for number in range(200):
            house, state, at, floods = random_run(chance)
            pages, behind = run(house, state, at, floods)
            for before, page in zip(states_of(house, state, at, floods), pages):
                for lay, row in zip(before[0], page):
                    self.assertEqual(lay + row[CAME], sum(row[TOOK:]))
                    self.assertGreaterEqual(min(row), 0)

    def test_no_cube_is_lost_or_made_over_a_run(self):
        chance = random.Random(4)
        for number in range(200):
            house, state, at, floods = random_run(chance)
            pages, behind = run(house, state, at, floods)
            took = sum([row[TOOK] for page in pages for row in page])
            gone = sum([gone_of(house, page) for page in pages])
            self.assertEqual(water_of(state) + sum(map(sum, floods)), took + gone + water_of(behind))

    def test_what_a_place_has_nothing_to_do_with_is_0(self):
        chance = random.Random(17)
        for number in range(200):
            house, state, at, floods = random_run(chance)
            for page in run(house, state, at, floods)[0]:
                for place, row in zip(house[1], page):
                    if place[0] == "basin":
                        self.assertEqual(row[TOOK], 0)
                    else:
                        self.assertEqual((row[SPILLED], row[PUMPED], row[LIES]), (0, 0, 0))
                    if place[0] == "mill":
                        self.assertEqual((row[TOOK], row[LET]), (0, row[CAME]))
                    if place[0] == "basin" and place[6] is None:
                        self.assertEqual(row[PUMPED], 0)

    def test_brims_and_spilling(self):
        chance = random.Random(5)
        spills = 0
        for number in range(200):
            house, state, at, floods = random_run(chance)
            for page in run(house, state, at, floods)[0]:
                for place, row in zip(house[1], page):
                    if place[0] == "basin":
                        self.assertLessEqual(row[LIES], place[4])
                        self.assertTrue(row[SPILLED] == 0 or row[LIES] == place[4])
                        spills += row[SPILLED]
        self.assertGreater(spills, 0)

    def test_towns_are_served_by_rank(self):
        chance = random.Random(6)
        for number in range(300):
            house, state, at, floods = random_run(chance)
            for turn_number, flood in enumerate(floods, start=at):
                page, behind = turn(house, state, turn_number, flood)
                told = rights(house, state, turn_number, flood)
                self.assertEqual(len(told), len(page))
                for town_number in range(len(page)):
                    self.assert_served(house, page, told, town_number)
                state = behind

    def assert_served(self, house, page, told, number):
        place = house[1][number]
        if place[0] != "town" or page[number][TOOK] == place[4]:
            self.assertIsNone(told[number])
            return
        dry_place = told[number]
        self.assertIn(dry_place, self.way_in_reach(house, number))
        self.assertEqual(page[dry_place][LET], 0)
        for other, other_place in enumerate(house[1]):
            if other_place[0] == "town" and (other_place[5], other) > (place[5], number):
                if dry_place in self.way_in_reach(house, other):
                    self.assertEqual(page[other][TOOK], 0)

    def way_in_reach(self, house, number):
        """The place and those below it in its reach."""
        way = [number]
        down = down_of(house, number)
        while down is not None and house[1][number][3] == 0 and house[1][down][0] != "basin":
            way.append(down)
            number = down
            down = down_of(house, number)
        return way

    def test_more_water_never_harms(self):
        chance = random.Random(7)
        more = 0
        for number in range(400):
            poor = random_run(chance)
            rich = richer_run(chance, *poor)
            house = poor[0]
            for poor_page, rich_page in zip(run(*poor)[0], run(*rich)[0]):
                for place, poor_row, rich_row in zip(house[1], poor_page, rich_page):
                    told = {"basin": (SPILLED, LET, PUMPED, LIES), "town": (TOOK,), "mill": ()}[place[0]]
                    for part in told:
                        with self.subTest(poor=poor, rich=rich):
                            self.assertGreaterEqual(rich_row[part], poor_row[part])
                        more += rich_row[part] - poor_row[part]
        self.assertGreater(more, 0)

    def test_numbers_of_forty_figures(self):
        rule = ((0, ((10 ** 39, 10 ** 38, "pump"), (2 * 10 ** 39, GREAT, "river"))),)
        house = checked((2, (
            basin("a", "b", 0, 5 * 10 ** 39, rule, ("c", 1, 10 ** 38)),
            town("b", "c", 0, GREAT, 1),
            town("c", "sea", 0, 9, 0),
        )))
        floods = [(GREAT, GREAT - 1, GREAT), (GREAT, 0, 0), (0, 0, 0)]
        pages, behind = run(house, start(house, (10 ** 39, 0, 0)), 1, floods)
        took = sum([row[TOOK] for page in pages for row in page])
        gone = sum([gone_of(house, page) for page in pages])
        self.assertEqual(10 ** 39 + sum(map(sum, floods)), took + gone + water_of(behind))
        self.assertEqual(pages[0][0], (GREAT, 0, 0, 9 * 10 ** 39 - 1, 10 ** 38, 19 * 10 ** 38))


if __name__ == "__main__":
    unittest.main()
