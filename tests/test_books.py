"""Books, accounts and shorts [2, 3, 20, 22].

Rows of pages are (CAME, TOOK, SPILLED, LET, PUMPED, LIES).
"""

import copy
import random
import unittest

from builders import (
    GREAT, QUIET, SHUT, WIDE, basin, behind_by_words, coming_of, empty, gone_of, house_of, line, mill, page_by_words,
    random_house, random_run, random_state, town, water_of,
)
from sluiceway.books import accounts, books, gone, shorts, water
from sluiceway.turns import run, start

NOTHING = (0,) * 6


class Asked(unittest.TestCase):
    def assert_told(self, call, *handed, told):
        """A call tells this, of the same kinds, and what is handed in stays."""
        before = copy.deepcopy(handed)
        with self.subTest(call=call.__name__, handed=handed):
            # The words of things tell tuples from lists, and numbers from truths.
            self.assertEqual(repr(call(*handed)), repr(told))
            self.assertEqual(repr(handed), repr(before))


class Water(Asked):
    def test_none(self):
        for many in (1, 5, 12):
            self.assert_told(water, ((0,) * many, (QUIET,) * many), told=0)

    def test_what_lies(self):
        self.assert_told(water, ((7,), (QUIET,)), told=7)
        for levels, told in (((3, 0, 0), 3), ((0, 0, 5), 5), ((1, 20, 300), 321)):
            self.assert_told(water, (levels, (QUIET,) * 3), told=told)

    def test_what_is_on_its_way_in_each_of_the_five_turns(self):
        for place in range(3):
            for ahead in range(5):
                coming = [list(QUIET) for number in range(3)]
                coming[place][ahead] = 9
                state = ((0, 0, 0), tuple([tuple(row) for row in coming]))
                self.assert_told(water, state, told=9)
                self.assert_told(water, ((0, 100, 0), state[1]), told=109)

    def test_both(self):
        self.assert_told(water, ((100000, 0), ((1, 20, 300, 4000, 50000), (0, 0, 0, 0, 7))), told=154328)

    def test_forty_figures(self):
        self.assert_told(water, ((GREAT, GREAT), ((GREAT,) * 5, (GREAT,) * 5)), told=12 * GREAT)

    def test_states_by_chance(self):
        chance = random.Random(201)
        for number in range(100):
            state = random_state(chance, random_house(chance))
            self.assert_told(water, state, told=water_of(state))


class Gone(Asked):
    # Of each kind one place whose river leads to the sea, and one whose river doesn't.
    PLACES = (
        basin("a", "b", 0, 9, pump=("d", 1, 9)), basin("b", "sea", 0, 9, pump=("d", 1, 9)), town("c", "d", 1, 5),
        town("d", "sea", 0, 5), mill("e", "f"), mill("f"),
    )
    TO_SEA = (1, 3, 5)

    def assert_gone(self, rows, told):
        page = [NOTHING] * 6
        for number, row in rows.items():
            page[number] = row
        self.assert_told(gone, house_of(*self.PLACES), tuple(page), told=told)

    def test_nothing(self):
        self.assert_gone({}, 0)

    def test_what_is_spilled_and_let_by_a_basin_at_the_sea(self):
        self.assert_gone({1: (40, 0, 7, 0, 0, 9)}, 7)
        self.assert_gone({1: (40, 0, 0, 5, 0, 9)}, 5)
        self.assert_gone({1: (40, 0, 7, 5, 3, 9)}, 12)

    def test_not_what_came_was_taken_or_pumped_or_lies(self):
        self.assert_gone({1: (18, 0, 0, 0, 9, 9)}, 0)
        self.assert_gone({3: (5, 5, 0, 0, 0, 0)}, 0)
        self.assert_gone({3: (8, 5, 0, 3, 0, 0)}, 3)

    def test_mills(self):
        self.assert_gone({5: (8, 0, 0, 8, 0, 0)}, 8)

    def test_not_what_goes_to_another_place(self):
        self.assert_gone({0: (40, 0, 7, 5, 3, 9), 2: (8, 5, 0, 3, 0, 0), 4: (8, 0, 0, 8, 0, 0)}, 0)

    def test_all_together(self):
        rows = {0: (40, 0, 1, 2, 3, 9), 1: (43, 0, 10, 20, 4, 9), 2: (5, 3, 0, 2, 0, 0), 3: (205, 5, 0, 200, 0, 0)}
        self.assert_gone({**rows, 4: (6, 0, 0, 6, 0, 0), 5: (4006, 0, 0, 4006, 0, 0)}, 4236)

    def test_whatever_the_delay(self):
        for delay in range(6):
            house = house_of(
                basin("a", "sea", delay, 9, pump=("c", 1, 50)), town("b", "sea", delay), mill("c", "d", delay),
                mill("d", "sea", delay),
            )
            page = ((70, 0, 4, 7, 50, 9), (23, 3, 0, 20, 0, 0), (600, 0, 0, 600, 0, 0), (100, 0, 0, 100, 0, 0))
            self.assert_told(gone, house, page, told=131)

    def test_forty_figures(self):
        house = house_of(basin("a", brim=0), mill("b"))
        page = ((2 * GREAT, 0, GREAT, GREAT, 0, 0), (GREAT, 0, 0, GREAT, 0, 0))
        self.assert_told(gone, house, page, told=3 * GREAT)

    def test_pages_by_chance(self):
        chance = random.Random(202)
        for number in range(100):
            house, state, at, floods = random_run(chance)
            for page in run(house, state, at, floods)[0]:
                self.assert_told(gone, house, page, told=gone_of(house, page))

    def test_pages_that_no_run_made(self):
        chance = random.Random(203)
        for number in range(100):
            house = random_house(chance)
            page = tuple([made_row(chance, place) for place in house[1]])
            self.assert_told(gone, house, page, told=gone_of(house, page))


def made_row(chance, place):
    """A row for a place in which what it has nothing to do with is 0, made by no run."""
    let = chance.randrange(9)
    if place[0] == "town":
        took = chance.randrange(place[4] + 1)
        return (took + let, took, 0, let, 0, 0)
    if place[0] == "mill":
        return (let, 0, 0, let, 0, 0)
    spilled = chance.randrange(9)
    pumped = chance.randrange(place[6][2] + 1) if place[6] else 0
    lies = chance.randrange(place[4] + 1)
    return (spilled + let + pumped + lies, 0, spilled, let, pumped, lies)


class Books(Asked):
    HOUSE = house_of(
        basin("a", "b", 1, 5, ((0, ((0, 2, "river"),)), (1, ((0, 9, "pump"),)), (2, ())), ("c", 2, 9)),
        town("b", "c", 0, 1, 0), mill("c"), year=3,
    )

    def test_no_turns(self):
        for at in (0, 1, 3, 200):
            self.assert_told(books, self.HOUSE, empty(self.HOUSE), at, [], told=(0, 0, 0, 0, 0))
            self.assert_told(books, self.HOUSE, start(self.HOUSE, (4, 0, 0)), at, [], told=(4, 0, 0, 0, 4))
            state = ((4, 0, 0), coming_of(3, p1=(1, 2, 3, 4, 5), p2=(0, 0, 0, 0, 70)))
            self.assert_told(books, self.HOUSE, state, at, [], told=(89, 0, 0, 0, 89))

    def test_one_turn(self):
        house = house_of(
            basin("a", "b", 0, 5, ((0, ((0, 2, "river"), (5, 2, "pump"))),), ("b", 1, 2)), town("b", "c", 0, 4, 0),
            mill("c", "sea", 3),
        )
        state = ((4, 0, 0), coming_of(3, p0=(6, 0, 0, 0, 0), p1=(0, 0, 8, 0, 0)))
        # In the basin 4 + 6 + 10 cubes: 2 let, 2 pumped, 11 spilled, 5 lie. The town takes 4 of 13, 9 and 30 go.
        self.assert_told(books, house, state, 0, [(10, 0, 30)], told=(18, 40, 4, 39, 15))

    def test_many_turns(self):
        floods = [(1, 0, 0), (4, 0, 0), (9, 0, 0), (0, 0, 0)]
        self.assert_told(books, self.HOUSE, start(self.HOUSE, (3, 0, 0)), 0, floods, told=(3, 14, 2, 10, 5))

    def test_the_first_turn_has_the_number_at(self):
        state = start(self.HOUSE, (5, 0, 0))
        flood = (3, 0, 0)
        for year in (0, 1, 7, 10 ** 30):
            # 2 let of 8, 1 spilled, all on its way; all 8 pumped; 3 spilled.
            self.assert_told(books, self.HOUSE, state, 3 * year, [flood, QUIET[:3]], told=(5, 3, 1, 2, 5))
            self.assert_told(books, self.HOUSE, state, 3 * year + 1, [flood, QUIET[:3]], told=(5, 3, 0, 0, 8))
            self.assert_told(books, self.HOUSE, state, 3 * year + 2, [flood, QUIET[:3]], told=(5, 3, 1, 2, 5))

    def test_towns_and_the_sea_each_by_themselves(self):
        house = house_of(town("a", need=3), town("b", "c", 0, 2), mill("c"), basin("d", "sea", 5, 1, SHUT))
        floods = [(5, 1, 0, 0), (1, 5, 100, 9), (0, 0, 0, 1)]
        self.assert_told(books, house, empty(house), 0, floods, told=(0, 122, 7, 114, 1))

    def test_forty_figures(self):
        lower = basin("c", brim=GREAT, rule=SHUT)
        house = house_of(basin("a", "b", 0, GREAT, WIDE), town("b", "c", 1, GREAT - 1), lower)
        state = start(house, (GREAT, 0, GREAT))
        floods = [(GREAT, 0, GREAT), (0, 0, 0), (GREAT, 5, 0)]
        told = (2 * GREAT, 3 * GREAT + 5, 2 * GREAT - 2, GREAT + GREAT + 1, GREAT + 6)
        self.assertEqual(sum(told[:2]), sum(told[2:]))
        self.assert_told(books, house, state, 0, floods, told=told)

    def test_by_words_and_what_it_comes_to(self):
        chance = random.Random(204)
        for number in range(200):
            house, state, at, floods = random_run(chance)
            took = 0
            gone_by = 0
            behind = state
            for when, flood in enumerate(floods):
                page = page_by_words(house, behind, at + when, flood)
                took += sum([row[1] for row in page])
                gone_by += gone_of(house, page)
                behind = behind_by_words(house, behind, page)
            told = (water_of(state), sum(map(sum, floods)), took, gone_by, water_of(behind))
            self.assertEqual(sum(told[:2]), sum(told[2:]))
            self.assert_told(books, house, state, at, floods, told=told)

    def test_two_hundred_turns(self):
        chance = random.Random(205)
        house = house_of(*line(), year=4)
        floods = [tuple([chance.randrange(60) for place in line()]) for number in range(200)]
        lay, came, took, gone_by, lie = books(house, start(house, (9, 0, 9, 0, 9)), 2, floods)
        pages, behind = run(house, start(house, (9, 0, 9, 0, 9)), 2, floods)
        self.assertEqual((lay, came, lie), (27, sum(map(sum, floods)), water_of(behind)))
        self.assertEqual(took, sum([page[1][1] for page in pages]))
        self.assertEqual(gone_by, sum([gone_of(house, page) for page in pages]))
        self.assertEqual(lay + came, took + gone_by + lie)


class AccountsAndShorts(Asked):
    # Towns at places 1, 3 and 4.
    HOUSE = house_of(basin("a"), town("b", "d", 0, 4, 2), mill("c"), town("d", "sea", 0, 0, 1), town("e", need=3))

    def page(self, *takes):
        """A page that no run made, in which the towns take so much."""
        first, second, third = takes
        return (
            (30, 0, 5, 6, 0, 19), (first + 2, first, 0, 2, 0, 0), (8, 0, 0, 8, 0, 0), (second, second, 0, 0, 0, 0),
            (third + 1, third, 0, 1, 0, 0),
        )

    def test_no_pages(self):
        self.assert_told(accounts, self.HOUSE, [], told=[(1, 0, 0), (3, 0, 0), (4, 0, 0)])
        self.assert_told(shorts, self.HOUSE, [], told=[])

    def test_no_towns(self):
        house = house_of(basin("a", "b", 0, 9), mill("b"))
        pages = [((9, 0, 0, 0, 0, 9), NOTHING), (NOTHING, (3, 0, 0, 3, 0, 0))]
        for some in ([], pages[:1], pages):
            self.assert_told(accounts, house, some, told=[])
            self.assert_told(shorts, house, some, told=[])

    def test_one_town(self):
        house = house_of(town("a", need=5))
        for took in range(6):
            page = ((took + 2, took, 0, 2, 0, 0),)
            self.assert_told(accounts, house, [page], told=[(0, took, 5)])
            self.assert_told(shorts, house, [page], told=[(0, 0, 5 - took)] if took < 5 else [])

    def test_one_page(self):
        self.assert_told(accounts, self.HOUSE, [self.page(4, 0, 3)], told=[(1, 4, 4), (3, 0, 0), (4, 3, 3)])
        self.assert_told(shorts, self.HOUSE, [self.page(4, 0, 3)], told=[])
        self.assert_told(accounts, self.HOUSE, [self.page(1, 0, 0)], told=[(1, 1, 4), (3, 0, 0), (4, 0, 3)])
        self.assert_told(shorts, self.HOUSE, [self.page(1, 0, 0)], told=[(0, 1, 3), (0, 4, 3)])
        self.assert_told(shorts, self.HOUSE, [self.page(4, 0, 2)], told=[(0, 4, 1)])

    def test_many_pages(self):
        pages = [self.page(4, 0, 1), self.page(4, 0, 3), self.page(0, 0, 2), self.page(3, 0, 3)]
        self.assert_told(accounts, self.HOUSE, pages, told=[(1, 11, 16), (3, 0, 0), (4, 9, 12)])
        self.assert_told(shorts, self.HOUSE, pages, told=[(0, 4, 2), (2, 1, 4), (2, 4, 1), (3, 1, 1)])

    def test_the_order_is_by_turns_then_by_places(self):
        house = house_of(town("a", "c", 0, 9, 5), mill("b"), town("c", "sea", 0, 9, 0), town("d", need=9, rank=2))
        pages = [((1, 1, 0, 0, 0, 0), NOTHING, (2, 2, 0, 0, 0, 0), (3, 3, 0, 0, 0, 0))] * 2
        self.assert_told(shorts, house, pages, told=[(0, 0, 8), (0, 2, 7), (0, 3, 6), (1, 0, 8), (1, 2, 7), (1, 3, 6)])
        self.assert_told(accounts, house, pages, told=[(0, 2, 18), (2, 4, 18), (3, 6, 18)])

    def test_pages_of_a_run(self):
        house = house_of(town("a", "b", 0, 4, 2), mill("b", "c"), town("c", "sea", 0, 4, 1))
        pages = run(house, empty(house), 0, [(5, 0, 0), (9, 0, 0), (0, 2, 0)])[0]
        self.assert_told(accounts, house, pages, told=[(0, 5, 12), (2, 10, 12)])
        self.assert_told(shorts, house, pages, told=[(0, 0, 3), (2, 0, 4), (2, 2, 2)])

    def test_forty_figures(self):
        house = house_of(town("a", need=GREAT))
        pages = [((GREAT - 7, GREAT - 7, 0, 0, 0, 0),), ((GREAT + 1, GREAT, 0, 1, 0, 0),), (NOTHING,)]
        self.assert_told(accounts, house, pages, told=[(0, 2 * GREAT - 7, 3 * GREAT)])
        self.assert_told(shorts, house, pages, told=[(0, 0, 7), (2, 0, GREAT)])

    def test_pages_by_chance(self):
        chance = random.Random(206)
        for number in range(200):
            house = random_house(chance)
            pages = [tuple([made_row(chance, place) for place in house[1]]) for when in range(chance.randrange(5))]
            towns = [place for place, told in enumerate(house[1]) if told[0] == "town"]
            needs = {place: house[1][place][4] for place in towns}
            lacking = [
                (when, place, needs[place] - page[place][1]) for when, page in enumerate(pages) for place in towns
            ]
            took = [(place, sum([page[place][1] for page in pages]), len(pages) * needs[place]) for place in towns]
            self.assert_told(accounts, house, pages, told=took)
            self.assert_told(shorts, house, pages, told=[short for short in lacking if short[2] > 0])

    def test_the_lists_are_new_and_the_askers_own(self):
        pages = [self.page(1, 0, 0), self.page(4, 0, 2)]
        for call in (accounts, shorts):
            first = call(self.HOUSE, pages)
            kept = list(first)
            first[0] = "mine"
            first.append("mine")
            self.assertEqual(call(self.HOUSE, pages), kept)
            nothing = call(self.HOUSE, [])
            nothing.append("mine")
            self.assertNotIn("mine", call(self.HOUSE, []))

    def test_pages_changed_later_change_nothing(self):
        pages = [self.page(1, 0, 0), self.page(4, 0, 2)]
        told = [accounts(self.HOUSE, pages), shorts(self.HOUSE, pages)]
        kept = copy.deepcopy(told)
        pages.pop()
        pages[0] = self.page(0, 0, 0)
        self.assertEqual(told, kept)


if __name__ == "__main__":
    unittest.main()
