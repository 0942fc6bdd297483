"""The whole promise [3], told by desks.

Houses by chance are told to desks; what they answer is read again. Rows of pages are (CAME, TOOK, SPILLED, LET,
PUMPED, LIES).
"""

import random
import unittest

from builders import (
    PARTS, answer_by_words, cubes_between, earned_of, is_planned, one_more, raised_cubes, random_ask, random_cubes,
    random_house, random_plan, with_other_rules,
)
from sluiceway.desk import Desk
from sluiceway.houses import checked, down_of
from sluiceway.plans import plan
from sluiceway.texts import shown_house
from sluiceway.turns import start

CAME, TOOK, SPILLED, LET, PUMPED, LIES = range(6)
# What more water never makes less.
NEVER_LESS = {"basin": (SPILLED, LET, PUMPED, LIES), "town": (TOOK,), "mill": ()}


def written(rows):
    return "/".join([",".join([str(number) for number in row]) for row in rows])


def desk_of(house, levels):
    """A desk told a house, and then the level of each place."""
    desk = Desk()
    desk.say("house\n" + shown_house(house))
    for place, level in zip(house[1], levels):
        desk.say(f"fill {place[1]} {level}")
    return desk


def turned(desk, floods):
    """The pages that a desk tells of these turns."""
    pages = []
    for flood in floods:
        rows = desk.say("turn " + written([flood])).split(" | ")
        pages.append(tuple([tuple([int(part) for part in row.split(" ")]) for row in rows]))
    return pages


def desk_behind(house, levels, floods):
    """A desk that was told these turns already."""
    desk = desk_of(house, levels)
    turned(desk, floods)
    return desk


def looked(desk, house, ask, lows, highs):
    """What a desk tells of an ask."""
    what, place, sense, number = ask
    row = f"look {what} {house[1][place][1]} {sense} {number} {written(lows)} {written(highs)}"
    word, when, found = desk.say(row).split(" ")
    return (word, int(when), int(found))


def planned(desk, floods, pays, left):
    """What a desk tells that is earned most, and the prices of the first turn."""
    most, prices = desk.say(f"plan {written(floods)} {written(pays)} {written([left])}").split(" ")
    return (int(most), [int(price) for price in prices.split(",")])


def brims_of(house):
    return [place[4] if place[0] == "basin" else 0 for place in house[1]]


def random_levels(chance, house):
    return tuple([chance.choice((0, brim, chance.randint(0, brim))) for brim in brims_of(house)])


def random_floods(chance, house, turns):
    return [random_cubes(chance, len(house[1])) for number in range(turns)]


class Whole(unittest.TestCase):
    def test_no_cube_is_lost_or_made(self):
        chance = random.Random(31)
        for number in range(60):
            house = checked(random_house(chance))
            levels = random_levels(chance, house)
            desk = desk_of(house, levels)
            floods = random_floods(chance, house, 8)
            lay = levels
            took = gone = 0
            for flood in floods:
                page = turned(desk, [flood])[0]
                for before, row in zip(lay, page):
                    self.assertEqual(before + row[CAME], sum(row[TOOK:]))
                lay = [row[LIES] for row in page]
                took += sum([row[TOOK] for row in page])
                to_sea = [row for place, row in enumerate(page) if down_of(house, place) is None]
                gone += sum([row[SPILLED] + row[LET] for row in to_sea])
            lie = sum(levels) + sum([sum(flood) for flood in floods]) - took - gone
            told = [sum(levels), sum([sum(flood) for flood in floods]), took, gone, lie]
            self.assertEqual(desk.say("books"), " ".join([str(number) for number in told]))
            self.assertGreaterEqual(lie, sum(lay))

    def test_a_basin_lies_never_above_its_brim_and_spills_only_at_it(self):
        chance = random.Random(32)
        for number in range(60):
            house = checked(random_house(chance))
            for page in turned(desk_of(house, random_levels(chance, house)), random_floods(chance, house, 8)):
                for brim, row in zip(brims_of(house), page):
                    self.assertLessEqual(row[LIES], brim)
                    if row[SPILLED] > 0:
                        self.assertEqual(row[LIES], brim)

    def test_a_town_that_lacks_water_has_a_dry_place_which_nothing_passes(self):
        chance = random.Random(33)
        for number in range(80):
            house = checked(random_house(chance))
            names = [place[1] for place in house[1]]
            desk = desk_of(house, random_levels(chance, house))
            for turn in range(4):
                page = turned(desk, random_floods(chance, house, 1))[0]
                answer = desk.say("rights")
                told = {} if answer == "none" else dict([row.split(" by ") for row in answer.split(", ")])
                towns = [(place, row) for place, row in zip(house[1], page) if place[0] == "town"]
                self.assertEqual(list(told), [place[1] for place, row in towns if row[TOOK] < place[4]])
                for town, dry in told.items():
                    self.assertEqual(page[names.index(dry)][LET], 0)
                    self.assert_nobody_behind_takes(house, page, names.index(town), names.index(dry))

    def assert_nobody_behind_takes(self, house, page, town, dry):
        """Above the dry place nobody of its reach takes anything who is behind the town in rank."""
        for place in range(dry + 1):
            if house[1][place][0] == "town" and self.leads_to(house, place, dry):
                if (house[1][place][5], place) > (house[1][town][5], town):
                    self.assertEqual(page[place][TOOK], 0)

    def leads_to(self, house, place, dry):
        """Whether rivers without delay lead from a place to another one, past towns and mills alone."""
        while place is not None and place != dry:
            if house[1][place][0] == "basin" or house[1][place][3] > 0:
                return False
            place = down_of(house, place)
        return place == dry

    def test_more_water_never_harms(self):
        chance = random.Random(34)
        for number in range(120):
            house = checked(random_house(chance))
            levels = random_levels(chance, house)
            higher = tuple([chance.choice((level, chance.randint(level, brim)))
                            for level, brim in zip(levels, brims_of(house))])
            floods = random_floods(chance, house, 8)
            richer = [raised_cubes(chance, flood) for flood in floods]
            pages = turned(desk_of(house, levels), floods)
            for other in (turned(desk_of(house, higher), floods), turned(desk_of(house, levels), richer),
                          turned(desk_of(house, higher), richer)):
                self.assert_nowhere_less(house, pages, other)

    def test_one_cube_more_never_harms(self):
        chance = random.Random(35)
        for number in range(40):
            house = checked(random_house(chance))
            levels = random_levels(chance, house)
            floods = random_floods(chance, house, 6)
            pages = turned(desk_of(house, levels), floods)
            for again in range(6):
                when = chance.randrange(6)
                richer = floods[:when] + [one_more(floods[when], chance.randrange(len(levels)))] + floods[when + 1:]
                self.assert_nowhere_less(house, pages, turned(desk_of(house, levels), richer))

    def assert_nowhere_less(self, house, pages, richer):
        for page, other in zip(pages, richer):
            for place, row, more in zip(house[1], page, other):
                for part in NEVER_LESS[place[0]]:
                    self.assertLessEqual(row[part], more[part], house)

    def test_floods_between_the_rows_of_a_look_keep_what_it_told(self):
        chance = random.Random(36)
        answers = []
        for number in range(150):
            house = checked(random_house(chance))
            told = (house, random_levels(chance, house), random_floods(chance, house, chance.choice((0, 1, 3))))
            lows = random_floods(chance, house, chance.randint(1, 5))
            highs = [raised_cubes(chance, flood) for flood in lows]
            ask = random_ask(chance, house, turned(desk_behind(*told), lows))
            if ask is None or ask[3] < 0:
                continue
            answer = looked(desk_behind(*told), house, ask, lows, highs)
            answers.append(answer[0])
            looked_through = lows if ask[2] == "least" else highs
            self.assertEqual(answer, answer_by_words(turned(desk_behind(*told), looked_through), ask))
            for again in range(6):
                between = [cubes_between(chance, low, high) for low, high in zip(lows, highs)]
                self.assert_holds(turned(desk_behind(*told), between), ask, answer)
        self.assertGreater(min(answers.count("kept"), answers.count("broken")), 20)

    def assert_holds(self, pages, ask, answer):
        """What was told to be kept is kept by these pages too, as near as was found at most."""
        what, place, sense, number = ask
        found = [page[place][PARTS[what]] for page in pages]
        if answer[0] == "kept" and sense == "least":
            self.assertGreaterEqual(min(found), max(number, answer[2]))
        elif answer[0] == "kept":
            self.assertLessEqual(max(found), min(number, answer[2]))

    def test_no_row_of_turns_earns_more_than_a_plan_told(self):
        chance = random.Random(37)
        for number in range(80):
            house, state, floods, pays, left = random_plan(chance)
            levels = random_levels(chance, house)
            most, prices = planned(desk_of(house, levels), floods, pays, left)
            for again in range(5):
                # By other rules than those of the house, too.
                other = with_other_rules(chance, house) if again > 0 else house
                pages = turned(desk_of(other, levels), floods)
                self.assertLessEqual(earned_of(house, pages, pays, left), most)
                self.assertEqual(planned(desk_of(other, levels), floods, pays, left), (most, prices))

    def test_no_row_of_turns_earns_more_behind_other_turns(self):
        chance = random.Random(38)
        for number in range(60):
            house, state, floods, pays, left = random_plan(chance)
            told = (house, random_levels(chance, house), random_floods(chance, house, 3))
            most, prices = planned(desk_behind(*told), floods, pays, left)
            pages = turned(desk_behind(*told), floods)
            self.assertLessEqual(earned_of(house, pages, pays, left), most)

    def test_one_cube_more_in_the_first_flood_earns_just_its_price_more(self):
        chance = random.Random(39)
        for number in range(60):
            house, state, floods, pays, left = random_plan(chance)
            told = (house, random_levels(chance, house), random_floods(chance, house, chance.choice((0, 1, 3))))
            most, prices = planned(desk_behind(*told), floods, pays, left)
            for place in range(len(prices)):
                richer = [one_more(floods[0], place)] + floods[1:]
                more = planned(desk_behind(*told), richer, pays, left)[0]
                self.assertEqual(more, most + prices[place])

    def test_what_a_plan_told_is_what_its_pages_earn(self):
        chance = random.Random(40)
        for number in range(60):
            house, state, floods, pays, left = random_plan(chance)
            levels = random_levels(chance, house)
            told = planned(desk_of(house, levels), floods, pays, left)
            most, pages, prices = plan(house, start(house, levels), floods, pays, left)
            self.assertEqual(told, (most, list(prices[0])))
            self.assertTrue(is_planned(house, start(house, levels), floods, pages))
            self.assertEqual(earned_of(house, pages, pays, left), most)


if __name__ == "__main__":
    unittest.main()
