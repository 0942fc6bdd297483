"""The desk: each row with its answer, the refusals and their order [2, 33].

Rows of pages are (CAME, TOOK, SPILLED, LET, PUMPED, LIES).
"""

import random
import unittest

from builders import (
    GREAT, answer_by_words, bent_texts, behind_by_words, empty, gone_of, page_by_words, raised, random_ask,
    random_cubes, random_house, random_plan, rights_by_words, water_of,
)
from sluiceway.desk import Desk
from sluiceway.errors import (
    NoAsk, NoBounds, NoHouse, NoLevel, NoName, NoNumber, NoPump, NoRiver, NoRow, NoRule, NoText, WaterError,
)
from sluiceway.floods import look
from sluiceway.houses import checked
from sluiceway.plans import plan
from sluiceway.texts import shown_house
from sluiceway.turns import run

# Two basins, one with a pump, a town at once below the first one, a mill a turn below that.
HOUSE = "\n".join([
    "year 4",
    "basin upper town 0 20 lower,2,5 0: 10+4 river, 14+5 pump; 2: 0+3 river",
    "town town mill 1 6 1",
    "mill mill lower 0 9",
    "basin lower sea 0 30 none 0: 0+2 river",
])
OTHER = "year 1\ntown solo sea 0 5 0"
NO_ROW = (NoRow, [])
NO_HOUSE = (NoHouse, [])
NO_NAME = (NoName, [None])
FORTY = "9" * 40
FORTY_ONE = "1" + "0" * 40

# One good row of each kind, but for `house`.
GOOD = (
    "show", "fill upper 5", "turn 1,2,3,4", "books", "rights", "look lies upper least 0 1,2,3,4 2,3,4,5",
    "plan 1,2,3,4/0,0,0,0 1,1,1,1/2,2,2,2 1,1,1,1",
)


def desk_with(*rows, house=HOUSE):
    """A desk that keeps a house and was told these rows."""
    desk = Desk()
    desk.say("house\n" + house)
    for row in rows:
        desk.say(row)
    return desk


def known(desk):
    """All that can be asked of a desk without changing it, refusals too."""
    turns = 6
    quiet = "/".join(["0,0,0,0"] * turns)
    rows = ["show", "books", "rights"]
    for what in ("lies", "spilled", "let", "pumped"):
        for name in ("upper", "lower"):
            for sense in ("least", "most"):
                rows += [f"look {what} {name} {sense} {number} {quiet} {quiet}" for number in (0, 1, 3, 100)]
    rows += [f"look took town {sense} {number} {quiet} {quiet}" for sense in ("least", "most") for number in range(8)]
    pays = "/".join(["1,5,2,0"] * turns)
    rows += [f"plan {quiet} {pays} {left}" for left in ("0,0,0,0", "3,0,0,9")]
    return [raised(desk.say, row) or desk.say(row) for row in rows]


class Told(unittest.TestCase):
    def assert_told(self, desk, row, answer):
        told = desk.say(row)
        self.assertEqual((told, type(told)), (answer, str), row)

    def assert_refused(self, desk, row, refusal):
        with self.subTest(row=row):
            self.assertEqual(raised(desk.say, row), refusal)


class House(Told):
    def test_a_house_is_kept(self):
        desk = Desk()
        self.assert_told(desk, "house\n" + HOUSE, "ok")
        self.assert_told(desk, "show", HOUSE)

    def test_show_tells_the_text_of_the_house(self):
        for house in (HOUSE, OTHER, "year 24\nmill a sea 5 0", "year 3\nbasin a sea 0 0 none 0:; 1: 0+1 river; 2:"):
            self.assert_told(desk_with(house=house), "show", house)

    def test_show_tells_the_same_at_any_time(self):
        desk = desk_with("fill upper 5", "turn 1,2,3,4")
        self.assert_told(desk, "show", HOUSE)
        self.assert_told(desk, "show", HOUSE)

    def test_all_begins_empty(self):
        desk = desk_with()
        self.assert_told(desk, "books", "0 0 0 0 0")
        self.assert_told(desk, "rights", "none")
        self.assert_told(desk, "turn 0,0,0,0", " | ".join(["0 0 0 0 0 0"] * 4))

    def test_a_house_told_again_begins_anew(self):
        fresh = known(desk_with())
        desk = desk_with("fill upper 20", "turn 50,0,0,0", "turn 0,0,0,0", "turn 9,9,9,9")
        self.assertNotEqual(known(desk), fresh)
        self.assert_told(desk, "house\n" + HOUSE, "ok")
        self.assertEqual(known(desk), fresh)

    def test_a_house_told_again_begins_with_turn_0(self):
        # From turn 2 of the year on the upper basin opens from the bottom.
        for turns in range(9):
            desk = desk_with(*["turn 0,0,0,0"] * turns)
            desk.say("house\n" + HOUSE)
            desk.say("fill upper 9")
            lets = [desk.say("turn 0,0,0,0").split(" ")[3] for number in range(5)]
            self.assertEqual(lets, ["0", "0", "3", "3", "0"], turns)

    def test_another_house(self):
        desk = desk_with("turn 50,0,0,0")
        self.assert_told(desk, "house\n" + OTHER, "ok")
        self.assert_told(desk, "show", OTHER)
        self.assert_told(desk, "books", "0 0 0 0 0")
        self.assert_told(desk, "rights", "none")
        self.assert_told(desk, "turn 3", "3 3 0 0 0 0")
        self.assert_refused(desk, "turn 1,2,3,4", NO_ROW)
        self.assert_refused(desk, "fill upper 3", NO_NAME)

    def test_a_house_is_refused_by_its_text(self):
        for text, row in (
            ("", 0), ("year", 0), ("year 01\nmill a sea 0 1", 0), ("year 4\n", 1), ("year 4\nmill a sea 0", 1),
            ("year 4\nmill a sea 0 1\nlake b sea 0 1", 2), (HOUSE + "\n", 5), ("\n" + HOUSE, 0), (" " + HOUSE, 0),
            (HOUSE.replace("0+3", "0 + 3"), 1), (HOUSE.replace("0+2", "0+02"), 4), ("house\n" + HOUSE, 0),
        ):
            self.assert_refused(Desk(), "house\n" + text, (NoText, [row]))
            self.assert_refused(desk_with(), "house\n" + text, (NoText, [row]))

    def test_a_house_is_refused_that_is_not_good(self):
        for text, refusal in (
            ("year 0\nmill a sea 0 1", NO_HOUSE), ("year 25\nmill a sea 0 1", NO_HOUSE), ("year 1", NO_HOUSE),
            (HOUSE.replace("upper", "sea"), (NoName, [0])), (HOUSE.replace("lower sea", "mill sea"), (NoPump, [0])),
            (HOUSE.replace("mill 1", "upper 1"), (NoRiver, [1])),
            (HOUSE.replace("mill lower", "mill mill"), (NoRiver, [2])),
            (HOUSE.replace("lower,2,5", "lower,0,5"), (NoPump, [0])), (HOUSE.replace("14+5", "14+6"), (NoRule, [0])),
        ):
            self.assert_refused(Desk(), "house\n" + text, refusal)
            self.assert_refused(desk_with(), "house\n" + text, refusal)

    def test_no_number_below_0_can_be_written(self):
        self.assert_refused(Desk(), "house\nyear 1\nmill a sea 0 -1", (NoText, [1]))
        self.assertNotEqual(NoNumber, NoText)

    def test_a_house_that_is_refused_changes_nothing(self):
        rows = ("fill upper 15", "turn 5,0,9,0", "turn 2,0,0,1")
        desk = desk_with(*rows)
        before = known(desk)
        for text in ("", "year 0\nmill a sea 0 1", HOUSE + "\n", HOUSE.replace("14+5", "14+6"), OTHER + " "):
            self.assertIsNotNone(raised(desk.say, "house\n" + text))
            self.assertEqual(known(desk), before)
        self.assert_told(desk, "turn 0,0,0,0", desk_with(*rows).say("turn 0,0,0,0"))

    def test_a_house_that_is_refused_leaves_a_desk_without_one(self):
        desk = Desk()
        self.assertIsNotNone(raised(desk.say, "house\nyear 0\nmill a sea 0 1"))
        for row in GOOD:
            self.assert_refused(desk, row, NO_HOUSE)


class Fill(Told):
    def test_a_basin(self):
        desk = desk_with()
        for level in (0, 1, 19, 20):
            self.assert_told(desk, f"fill upper {level}", "ok")
            self.assert_told(desk, "books", f"{level} 0 0 0 {level}")
        self.assert_told(desk, "fill lower 30", "ok")
        self.assert_told(desk, "books", "50 0 0 0 50")

    def test_above_the_brim(self):
        desk = desk_with("fill upper 7")
        for level in (21, 22, 1000, FORTY):
            self.assert_refused(desk, f"fill upper {level}", (NoLevel, [0]))
        for level in (31, FORTY):
            self.assert_refused(desk, f"fill lower {level}", (NoLevel, [3]))
        self.assert_told(desk, "books", "7 0 0 0 7")

    def test_towns_and_mills_have_a_level_of_0_alone(self):
        desk = desk_with("fill upper 7")
        for name, place in (("town", 1), ("mill", 2)):
            self.assert_told(desk, f"fill {name} 0", "ok")
            self.assert_refused(desk, f"fill {name} 1", (NoLevel, [place]))
            self.assert_refused(desk, f"fill {name} {FORTY}", (NoLevel, [place]))

    def test_no_such_place(self):
        for name in ("nowhere", "sea", "Upper", "uppe", "upperr", "", "upper,", "0", "none", "up\nper", "upper\n"):
            for level in (0, 5, 21):
                self.assert_refused(desk_with(), f"fill {name} {level}", NO_NAME)

    def test_the_level_counts_from_the_next_turn_on(self):
        desk = desk_with("turn 9,0,0,0", "fill upper 16")
        self.assert_told(desk, "turn 1,0,0,0", "1 0 0 4 3 10 | 4 4 0 0 0 0 | 0 0 0 0 0 0 | 0 0 0 0 0 0")

    def test_a_level_may_be_set_lower_and_to_what_it_is(self):
        desk = desk_with("fill upper 20", "fill upper 3", "fill upper 3")
        self.assert_told(desk, "books", "3 0 0 0 3")
        self.assert_told(desk, "fill upper 0", "ok")
        self.assert_told(desk, "books", "0 0 0 0 0")

    def test_the_books_begin_anew(self):
        for row in ("fill upper 4", "fill lower 0", "fill town 0", "fill mill 0"):
            desk = desk_with("turn 30,3,3,3", "turn 1,1,1,1")
            self.assertNotEqual(desk.say("books").split()[1], "0")
            desk.say(row)
            lay, came, took, gone, lie = desk.say("books").split()
            self.assertEqual((came, took, gone, lie), ("0", "0", "0", lay))
            self.assert_told(desk, "rights", "none")

    def test_what_is_on_its_way_stays(self):
        # 4 go down the river, of which the town takes all, 5 are pumped, and 11 are spilled.
        desk = desk_with("fill upper 20")
        self.assert_told(desk, "turn 20,0,0,0", "20 0 11 4 5 20 | 15 6 0 9 0 0 | 0 0 0 0 0 0 | 0 0 0 0 0 0")
        desk.say("fill upper 0")
        self.assert_told(desk, "books", "14 0 0 0 14")
        self.assert_told(desk, "turn 0,0,0,0", "0 0 0 0 0 0 | 0 0 0 0 0 0 | 9 0 0 9 0 0 | 9 0 0 2 0 7")
        self.assert_told(desk, "turn 0,0,0,0", "0 0 0 0 0 0 | 0 0 0 0 0 0 | 0 0 0 0 0 0 | 5 0 0 2 0 10")
        self.assert_told(desk, "books", "14 0 0 4 10")

    def test_the_turns_number_stays(self):
        # From turn 2 of the year on the upper basin opens from the bottom.
        for turns, let in enumerate((0, 0, 3, 3, 0, 0, 3, 3, 0)):
            desk = desk_with(*["turn 0,0,0,0"] * turns, "fill upper 9")
            self.assertEqual(desk.say("turn 0,0,0,0").split(" | ")[0], f"0 0 0 {let} 0 {9 - let}")

    def test_what_is_refused_changes_nothing(self):
        rows = ("fill upper 15", "turn 5,0,9,0", "turn 2,0,0,1")
        desk = desk_with(*rows)
        before = known(desk)
        for row in ("fill upper 21", "fill town 1", "fill nowhere 3", "fill upper", "fill upper 03", "fill upper -1"):
            self.assertIsNotNone(raised(desk.say, row))
            self.assertEqual(known(desk), before)


class Turn(Told):
    def test_the_page(self):
        desk = desk_with("fill upper 18", "fill lower 1")
        self.assert_told(desk, "turn 3,1,2,0", "3 0 0 4 5 12 | 5 5 0 0 0 0 | 2 0 0 2 0 0 | 2 0 0 2 0 1")

    def test_one_place(self):
        desk = desk_with(house=OTHER)
        for cubes, page in (("0", "0 0 0 0 0 0"), ("3", "3 3 0 0 0 0"), ("7", "7 5 0 2 0 0")):
            self.assert_told(desk, f"turn {cubes}", page)

    def test_forty_figures(self):
        desk = desk_with(house=OTHER)
        self.assert_told(desk, f"turn {FORTY}", f"{FORTY} 5 0 {GREAT - 5} 0 0")
        self.assert_told(desk, "books", f"0 {FORTY} 5 {GREAT - 5} 0")
        self.assert_told(desk, f"turn {FORTY}", f"{FORTY} 5 0 {GREAT - 5} 0 0")
        self.assert_told(desk, "books", f"0 {2 * GREAT} 10 {2 * GREAT - 10} 0")

    def test_turns_one_behind_the_other_by_the_turn_of_the_year(self):
        desk = desk_with()
        lets = []
        for number in range(10):
            desk.say("fill upper 9")
            lets.append(desk.say("turn 0,0,0,0").split(" ")[3])
        self.assertEqual(lets, ["0", "0", "3", "3", "0", "0", "3", "3", "0", "0"])

    def test_one_number_for_each_place(self):
        desk = desk_with("fill upper 4")
        for cubes in ("1", "1,2", "1,2,3", "1,2,3,4,5", ",".join("0" * 12)):
            self.assert_refused(desk, f"turn {cubes}", NO_ROW)
        self.assert_told(desk, "books", "4 0 0 0 4")

    def test_one_flood_alone(self):
        self.assert_refused(desk_with(), "turn 1,2,3,4/1,2,3,4", NO_ROW)
        self.assert_refused(desk_with(house=OTHER), "turn 1/2", NO_ROW)

    def test_what_is_refused_changes_nothing(self):
        rows = ("fill upper 15", "turn 5,0,9,0", "turn 2,0,0,1")
        desk = desk_with(*rows)
        before = known(desk)
        for row in ("turn 1,2,3", "turn 1,2,3,4,5", "turn", "turn 1,2,3,04", "turn 1,2,3,-4", "turn 1,2,3,4 "):
            self.assertIsNotNone(raised(desk.say, row))
            self.assertEqual(known(desk), before)


class Books(Told):
    def test_behind_none_one_and_many_turns(self):
        desk = desk_with("fill upper 18", "fill lower 1")
        self.assert_told(desk, "books", "19 0 0 0 19")
        desk.say("turn 3,1,2,0")
        # 12 and 1 lie, and 5 are on their way by the pump.
        self.assert_told(desk, "books", "19 6 5 2 18")
        desk.say("turn 0,0,0,0")
        self.assert_told(desk, "books", "19 6 7 3 15")
        desk.say("turn 0,9,0,0")
        # 7 and 3 lie, and 6 are on their way to the mill.
        self.assert_told(desk, "books", "19 15 13 5 16")

    def test_asking_changes_nothing(self):
        desk = desk_with("turn 3,1,2,0")
        self.assertEqual(desk.say("books"), desk.say("books"))
        self.assertEqual(known(desk), known(desk))

    def test_many_turns(self):
        desk = desk_with()
        for number in range(1, 151):
            desk.say("turn 2,0,0,0")
            lay, came, took, gone, lie = [int(word) for word in desk.say("books").split(" ")]
            self.assertEqual((lay, came), (0, 2 * number))
            self.assertEqual(took + gone + lie, 2 * number)


class Rights(Told):
    # Three towns in one reach; the first is served last.
    REACH = "year 1\ntown a b 0 4 3\ntown b c 0 4 2\ntown c sea 0 4 1"

    def test_no_turn(self):
        self.assert_told(desk_with(), "rights", "none")
        self.assert_told(desk_with("fill upper 3"), "rights", "none")

    def test_no_town(self):
        desk = desk_with("turn 5", house="year 1\nmill a sea 0 5")
        self.assert_told(desk, "rights", "none")

    def test_nothing_lacks(self):
        self.assert_told(desk_with("turn 0,6,0,0"), "rights", "none")
        self.assert_told(desk_with("turn 0,7,0,0"), "rights", "none")

    def test_one_town(self):
        self.assert_told(desk_with("turn 0,5,0,0"), "rights", "town by town")
        self.assert_told(desk_with("turn 9,0,9,9"), "rights", "town by town")

    def test_several_towns_in_their_order(self):
        for cubes, told in (
            ("12,0,0", "none"), ("9,0,0", "a by c"), ("5,0,0", "a by c, b by c"), ("3,0,0", "a by c, b by c, c by c"),
            ("0,0,4", "a by a, b by b"), ("0,8,0", "a by a"), ("4,4,4", "none"), ("0,0,0", "a by a, b by b, c by c"),
            ("1,0,8", "a by b, b by b"), ("1,4,4", "a by a"),
        ):
            self.assert_told(desk_with(f"turn {cubes}", house=self.REACH), "rights", told)

    def test_of_the_last_turn_alone(self):
        desk = desk_with(house=self.REACH)
        for cubes, told in (("9,0,0", "a by c"), ("12,0,0", "none"), ("0,8,0", "a by a"), ("5,0,0", "a by c, b by c")):
            desk.say(f"turn {cubes}")
            self.assert_told(desk, "rights", told)
            self.assert_told(desk, "rights", told)

    def test_by_what_lay_and_was_on_its_way_ahead_of_the_turn(self):
        house = "year 2\nbasin a b 1 9 none 0: 0+9 river; 1:\ntown b sea 0 5 0"
        desk = desk_with("fill a 4", house=house)
        # The basin opens in every other turn, and what it lets comes a turn later.
        for told in ("b by b", "none", "b by b", "b by b"):
            desk.say("turn 1,0")
            self.assert_told(desk, "rights", told)
        desk = desk_with("fill a 4", "turn 1,0", "turn 0,0", house=house)
        self.assert_told(desk, "rights", "none")
        desk.say("turn 0,0")
        self.assert_told(desk, "rights", "b by b")

    def test_none_once_the_books_began_anew(self):
        desk = desk_with("turn 0,5,0,0")
        self.assert_told(desk, "rights", "town by town")
        desk.say("fill town 0")
        self.assert_told(desk, "rights", "none")
        desk.say("turn 0,5,0,0")
        self.assert_told(desk, "rights", "town by town")
        desk.say("house\n" + HOUSE)
        self.assert_told(desk, "rights", "none")


class Look(Told):
    LOWS = "3,1,0,0/0,7,0,0/0,0,0,0"
    HIGHS = "9,1,0,0/4,7,2,0/9,9,9,9"

    def pages_of(self, floods):
        desk = desk_with("fill upper 12", "fill lower 1")
        pages = []
        for cubes in floods.split("/"):
            page = desk.say(f"turn {cubes}")
            pages.append([[int(part) for part in row.split(" ")] for row in page.split(" | ")])
        return pages

    def test_each_what_and_sense_by_turns_told(self):
        desk = desk_with("fill upper 12", "fill lower 1")
        pages = {"least": self.pages_of(self.LOWS), "most": self.pages_of(self.HIGHS)}
        asks = [(what, name) for what in ("lies", "spilled", "let", "pumped") for name in ("upper", "lower")]
        for what, name in asks + [("took", "town")]:
            for sense in ("least", "most"):
                for number in range(22):
                    ask = (what, ("upper", "town", "mill", "lower").index(name), sense, number)
                    told = " ".join([str(word) for word in answer_by_words(pages[sense], ask)])
                    self.assert_told(desk, f"look {what} {name} {sense} {number} {self.LOWS} {self.HIGHS}", told)

    def test_each_what_and_sense(self):
        desk = desk_with("fill upper 12", "fill lower 1")
        # The upper basin has 15, 10, 10 with the lower row, and 21, 16, 19 with the higher one.
        for row, told in (
            ("lies upper least 7", "kept 2 7"), ("lies upper least 8", "broken 2 7"),
            ("lies upper most 16", "kept 2 16"), ("lies upper most 11", "broken 0 12"),
            ("let upper least 0", "kept 1 0"), ("let upper least 1", "broken 1 0"),
            ("let upper most 4", "kept 0 4"), ("let upper most 3", "broken 0 4"),
            ("pumped upper least 0", "kept 1 0"), ("pumped upper least 1", "broken 1 0"),
            ("pumped upper most 5", "kept 0 5"), ("pumped upper most 1", "broken 0 5"),
            ("spilled upper least 0", "kept 0 0"), ("spilled upper most 0", "kept 0 0"),
            ("took town least 3", "kept 2 3"), ("took town least 5", "broken 2 3"),
            ("took town most 6", "kept 1 6"), ("took town most 5", "broken 1 6"),
        ):
            self.assert_told(desk, f"look {row} {self.LOWS} {self.HIGHS}", told)

    def test_one_turn(self):
        desk = desk_with(house=OTHER)
        self.assert_told(desk, "look took solo least 3 3 9", "kept 0 3")
        self.assert_told(desk, "look took solo least 4 3 9", "broken 0 3")
        self.assert_told(desk, "look took solo most 5 3 9", "kept 0 5")
        self.assert_told(desk, "look took solo most 4 3 9", "broken 0 5")

    def test_by_the_present_state_and_the_turns_number(self):
        for turns in range(9):
            desk = desk_with(*["turn 5,0,0,0"] * turns)
            row = "look let upper most 2 0,0,0,0/0,0,0,0/0,0,0,0 1,0,0,0/1,0,0,0/1,0,0,0"
            told = desk.say(row)
            lets = [int(desk.say("turn 1,0,0,0").split(" ")[3]) for turn in range(3)]
            above = [number for number, let in enumerate(lets) if let > 2]
            self.assertEqual(told.split(" ")[0], "broken" if above else "kept")
            self.assertEqual(int(told.split(" ")[1]), above[0] if above else lets.index(max(lets)))

    def test_looking_changes_nothing(self):
        desk = desk_with("fill upper 12", "turn 3,1,0,0")
        before = known(desk)
        desk.say("look lies upper most 5 9,9,9,9/9,9,9,9 9,9,9,9/9,9,9,9")
        self.assertEqual(known(desk), before)

    def test_an_ask_that_is_none(self):
        for words in (
            "lie upper least", "LIES upper least", "came upper least", " upper least", "lies upper less",
            "lies upper Least", "lies upper ", "lies town least", "spilled town least", "let mill least",
            "pumped mill most", "took upper least", "took mill most", "took lower most", "least upper lies",
        ):
            row = f"look {words} 3 0,0,0,0 1,1,1,1"
            self.assert_refused(desk_with(), row, (NoAsk, []))

    def test_rows_that_are_not_under_one_another(self):
        for floods in (
            "1,0,0,0 0,0,0,0", "0,0,0,1 9,9,9,0", "0,0,0,0/0,0,5,0 0,0,0,0/0,0,4,0", "0,0,0,0 0,0,0,0/0,0,0,0",
            "0,0,0,0/0,0,0,0 0,0,0,0", f"{FORTY},0,0,0 {GREAT - 1},0,0,0",
        ):
            self.assert_refused(desk_with(), f"look lies upper least 0 {floods}", (NoBounds, []))

    def test_no_such_place(self):
        for name in ("nowhere", "sea", "", "0", "Upper"):
            self.assert_refused(desk_with(), f"look lies {name} least 0 0,0,0,0 0,0,0,0", NO_NAME)

    def test_not_one_number_for_each_place(self):
        for floods in (
            "0,0,0 0,0,0", "0,0,0,0 0,0,0", "0,0,0 0,0,0,0", "0,0,0,0,0 0,0,0,0,0", "0,0,0,0/0 0,0,0,0/0,0,0,0",
            "0,0,0,0/0,0,0,0 0,0,0,0/0,0,0,0,0", "0 0",
        ):
            self.assert_refused(desk_with(), f"look lies upper least 0 {floods}", NO_ROW)


class Plan(Told):
    PAIR = "year 1\nbasin a b 0 9 none 0:\ntown b sea 0 4 0"

    def test_one_turn(self):
        desk = desk_with("fill a 3", house=self.PAIR)
        for row, told in (
            ("0,0 0,5 0,0", "15 5,5"), ("1,0 0,5 0,0", "20 0,0"), ("0,2 0,5 0,0", "20 0,0"), ("0,0 0,5 7,0", "21 7,5"),
            ("0,0 0,0 0,0", "0 0,0"), ("0,0 9,5 4,9", "15 5,5"), ("3,0 0,5 4,0", "28 4,4"),
        ):
            self.assert_told(desk, f"plan {row}", told)

    def test_many_turns(self):
        desk = desk_with("fill a 3", house=self.PAIR)
        for row, told in (
            ("0,0/0,0 0,5/0,6 0,0", "18 6,5"), ("2,0/0,0 0,5/0,6 0,0", "29 5,5"), ("0,0/0,9 0,5/0,6 0,0", "39 5,5"),
            ("0,0/0,0/0,0 0,1/0,0/0,1 2,0", "6 2,1"), ("9,0/9,0 0,1/0,1 1,0", "17 0,0"),
        ):
            self.assert_told(desk, f"plan {row}", told)

    def test_one_place(self):
        self.assert_told(desk_with(house=OTHER), "plan 3/4/9 2/1/10 0", "60 2")

    def test_great_numbers(self):
        desk = desk_with(house=self.PAIR.replace("9", FORTY, 1).replace("4", FORTY))
        desk.say(f"fill a {FORTY}")
        self.assert_told(desk, f"plan {FORTY},0 0,1000 999,0", f"{1999 * GREAT} 0,0")

    def test_prices_of_the_first_turn_alone(self):
        desk = desk_with("fill upper 5", "turn 20,0,0,0")
        told = desk.say("plan 0,0,0,0/0,0,0,0/0,0,0,0 0,1,2,0/0,3,4,0/0,5,6,0 0,0,0,7")
        self.assertRegex(told, r"\A[0-9]+ [0-9]+,[0-9]+,[0-9]+,[0-9]+\Z")

    def test_planning_changes_nothing(self):
        desk = desk_with("fill upper 12", "turn 3,1,0,0")
        before = known(desk)
        desk.say("plan 9,9,9,9/9,9,9,9 1,2,3,4/1,2,3,4 5,5,5,5")
        self.assertEqual(known(desk), before)

    def test_unlike_turns(self):
        for row in ("0,0/0,0 0,5 0,0", "0,0 0,5/0,6 0,0", "0,0/0,0/0,0 0,5/0,6 0,0"):
            self.assert_refused(desk_with(house=self.PAIR), f"plan {row}", NO_ROW)

    def test_not_one_number_for_each_place(self):
        for row in ("0 0,5 0,0", "0,0 5 0,0", "0,0 0,5 0", "0,0,0 0,5 0,0", "0,0 0,5,0 0,0", "0,0 0,5 0,0,0",
                    "0,0/0 0,5/0,5 0,0", "0,0/0,0 0,5/0,5,5 0,0"):
            self.assert_refused(desk_with(house=self.PAIR), f"plan {row}", NO_ROW)

    def test_left_is_of_one_turn(self):
        self.assert_refused(desk_with(house=self.PAIR), "plan 0,0/0,0 0,5/0,5 0,0/0,0", NO_ROW)


class Writing(Told):
    """What is no row by its words and the writing of its numbers, with a house and without one."""

    def assert_no_row(self, *rows):
        for row in rows:
            self.assert_refused(Desk(), row, NO_ROW)
            self.assert_refused(desk_with("fill upper 5", "turn 1,2,3,4"), row, NO_ROW)

    def test_unknown_words(self):
        self.assert_no_row(
            "", " ", "  ", "\n", "shows", "Show", "SHOW", "help", "0", "run 1,2,3,4", "ok", "none", "show\n", "\nshow",
            "books\n", "rights\n", "fill\nupper 5", "turn\n1,2,3,4")

    def test_house_without_a_line_end(self):
        self.assert_no_row("house", "house ", "house " + HOUSE, "house year 4", " house\n" + HOUSE, "houses\n" + HOUSE,
                           "house \n" + HOUSE, "\nhouse\n" + HOUSE, "House\n" + HOUSE)

    def test_a_word_too_few_or_too_many(self):
        for row in GOOD:
            words = row.split(" ")
            self.assert_no_row(*[" ".join(words + more) for more in (["1"], ["upper"], [""], ["0,0,0,0"])])
            # A look or plan without a word has none that fits all the others.
            self.assert_no_row(*[" ".join(words[:many]) for many in range(len(words))])

    def test_blanks_ahead_and_behind_and_two_beside_one_another(self):
        for row in GOOD:
            self.assert_no_row(" " + row, row + " ", "  " + row, row + "  ", row + "\n", "\n" + row)
            self.assert_no_row(*[row.replace(" ", "  ", many) for many in range(1, row.count(" ") + 1)])

    def test_two_blanks_where_a_name_is_asked(self):
        # There stands a word without signs: as many words as there must be, but no name that a place bears.
        self.assert_refused(desk_with(), "fill  5", NO_NAME)
        self.assert_refused(Desk(), "fill  5", NO_HOUSE)
        self.assert_refused(desk_with(), "look lies  least 0 0,0,0,0 0,0,0,0", NO_NAME)
        self.assert_refused(desk_with(), "look  upper least 0 0,0,0,0 0,0,0,0", (NoAsk, []))

    def test_two_blanks_where_a_number_is_asked(self):
        self.assert_no_row("fill upper ", "turn ", "look lies upper least  0,0,0,0 0,0,0,0",
                           "look lies upper least 0  0,0,0,0", "look lies upper least 0 0,0,0,0 ",
                           "plan  0,0,0,0 0,0,0,0", "plan 0,0,0,0  0,0,0,0", "plan 0,0,0,0 0,0,0,0 ")

    NUMBERS = ("", "-1", "+1", "00", "01", "007", "1.0", "1e3", "0x1", "a", "one", "1_0", "1 ", "-0", "+0", FORTY_ONE,
               "0" * 40, "1\n", "\n1", "None", "True", "5-", "'5'", "\u0661", "\u00b2")

    def test_numbers_that_are_not_written_so(self):
        for number in self.NUMBERS:
            self.assert_no_row(f"fill upper {number}", f"look lies upper least {number} 0,0,0,0 0,0,0,0")

    def test_cubes_that_are_not_written_so(self):
        cubes = [f"{number},0,0,0" for number in self.NUMBERS] + [f"0,0,{number},0" for number in self.NUMBERS]
        cubes += [f"0,0,0,{number}" for number in self.NUMBERS]
        cubes += [",0,0,0,0", "0,0,0,0,", "0,,0,0", "0;0;0;0", "0, 0, 0, 0", "(0,0,0,0)", "0,0,0,0,,", ","]
        for row in cubes:
            self.assert_no_row(f"turn {row}", f"plan 0,0,0,0 0,0,0,0 {row}")

    def test_floods_that_are_not_written_so(self):
        floods = [f"0,0,0,0/0,{number},0,0" for number in self.NUMBERS]
        floods += ["/", "0,0,0,0/", "/0,0,0,0", "0,0,0,0//0,0,0,0", "0,0,0,0/,", "0,0,0,0|0,0,0,0", "0,0,0,0/0,0,0,0/"]
        for row in floods:
            self.assert_no_row(
                f"look lies upper least 0 {row} 0,0,0,0/0,0,0,0", f"look lies upper least 0 0,0,0,0/0,0,0,0 {row}",
                f"plan {row} 0,0,0,0/0,0,0,0 0,0,0,0", f"plan 0,0,0,0/0,0,0,0 {row} 0,0,0,0")

    def test_numbers_that_are_written_so(self):
        desk = desk_with(house=f"year 1\nbasin a sea 0 {FORTY} none 0:")
        for number in ("0", "1", "10", "100", "909", FORTY, "1" + "0" * 39):
            self.assert_told(desk, f"fill a {number}", "ok")
            self.assert_told(desk, "books", f"{number} 0 0 0 {number}")

    def test_rows_bent_sign_by_sign(self):
        """Whatever is said, a desk tells a text or refuses it, and what is refused changes nothing."""
        for row in GOOD:
            desk = desk_with("fill upper 15", "turn 5,0,9,0")
            shown = (desk.say("books"), desk.say("rights"))
            for bent in bent_texts(row, " ,/0-a\n"):
                refusal = raised(desk.say, bent)
                if refusal is None:
                    desk = desk_with("fill upper 15", "turn 5,0,9,0")
                else:
                    self.assertIn(refusal, (NO_ROW, NO_NAME, (NoLevel, [0]), (NoAsk, []), (NoBounds, [])), bent)
                    self.assertEqual((desk.say("books"), desk.say("rights")), shown, bent)


class Order(Told):
    """NoRow by words and writing, NoHouse, NoRow by counts, NoName, then what the row itself refuses."""

    def test_no_house(self):
        for row in GOOD:
            self.assert_refused(Desk(), row, NO_HOUSE)

    def test_no_house_goes_ahead_of_counts_names_and_the_rest(self):
        for row in (
            "turn 1", "turn 1,2", "fill nowhere 5", "fill upper 9999", "look lies upper least 0 0 0,0",
            "look lies upper least 0 1 0", "look nothing upper never 0 0 0", "plan 0 0 0,0", "plan 0/0 0 0",
            "plan 0 0/0 0",
        ):
            self.assert_refused(Desk(), row, NO_HOUSE)

    def test_writing_goes_ahead_of_no_house(self):
        for row in (
            "turn", "turn 01", "turn 1,", "fill upper", "fill nowhere 05", "look lies upper least 00 0 0",
            "look lies upper least 0 0 0/", "plan 0 0", "plan 0 0 0/0", "plan 0/0 0 -1", "shown", "show it", "books 1",
        ):
            self.assert_refused(Desk(), row, NO_ROW)

    def test_writing_goes_ahead_of_names_and_the_rest(self):
        for row in (
            "fill nowhere 05", "fill upper 021", f"fill upper {FORTY_ONE}", "look lies nowhere least 0 0,0,0,0 0,0,0,a",
            "look nothing upper least 0 0,0,0,0 0,0,0,0,", "look lies upper least 0 1,1,1,1 0,0,0,",
            "look lies nowhere least x 0,0,0,0 0,0,0,0",
        ):
            self.assert_refused(desk_with(), row, NO_ROW)

    def test_counts_go_ahead_of_names_and_the_rest(self):
        for row in (
            "look lies nowhere least 0 0,0,0 0,0,0", "look lies nowhere least 0 0,0,0,0 0,0,0",
            "look nothing nowhere never 0 0 0", "look lies upper never 0 0,0,0,0 0,0,0",
            "look lies upper least 0 1,1,1,1 0,0,0", "look took upper least 0 0,0,0,0/0 0,0,0,0/0,0,0,0",
        ):
            self.assert_refused(desk_with(), row, NO_ROW)

    def test_names_go_ahead_of_the_rest(self):
        for row in (
            "fill nowhere 9999", "look nothing nowhere never 0 0,0,0,0 0,0,0,0",
            "look lies nowhere least 0 1,1,1,1 0,0,0,0", "look took nowhere least 0 0,0,0,0 0,0,0,0/0,0,0,0",
        ):
            self.assert_refused(desk_with(), row, NO_NAME)

    def test_asks_go_ahead_of_bounds(self):
        for row in (
            "look nothing upper least 0 1,1,1,1 0,0,0,0", "look lies upper never 0 1,1,1,1 0,0,0,0",
            "look took mill least 0 0,0,0,0 0,0,0,0/0,0,0,0",
        ):
            self.assert_refused(desk_with(), row, (NoAsk, []))

    def test_turns_of_a_look_that_are_not_as_many_are_bounds(self):
        self.assert_refused(desk_with(), "look lies upper least 0 0,0,0,0 0,0,0,0/0,0,0,0", (NoBounds, []))
        self.assert_refused(desk_with(), "plan 0,0,0,0 0,0,0,0/0,0,0,0 0,0,0,0", NO_ROW)

    def test_a_house_is_read_with_no_house_kept(self):
        self.assert_refused(Desk(), "house\n", (NoText, [0]))
        self.assert_refused(Desk(), "house\nyear 99\nmill a sea 0 1", NO_HOUSE)

    def test_each_refusal_is_one_of_the_programs_own(self):
        for row in ("", "house", "turn 1", "fill nowhere 5", "fill upper 21", "house\nyear"):
            with self.assertRaises(WaterError):
                desk_with().say(row)


class Unchanged(Told):
    def test_what_is_refused_changes_nothing(self):
        rows = ("fill upper 20", "fill lower 9", "turn 5,0,9,0", "turn 2,0,0,1", "turn 9,0,0,0")
        refused = (
            "", "show it", "house", "house\n", "house\nyear 0\nmill a sea 0 1", "fill nowhere 1", "fill upper 21",
            "fill mill 1", "turn 1,1,1", "turn 1,1,1,01", "books ", "rights 1",
            "look lies nowhere least 0 0,0,0,0 0,0,0,0", "look lies town least 0 0,0,0,0 0,0,0,0",
            "look lies upper least 0 1,0,0,0 0,0,0,0", "look lies upper least 0 1,0,0 0,0,0,0",
            "plan 0,0,0,0 0,0,0,0/0,0,0,0 0,0,0,0", "plan 0,0,0,0 0,0,0,0 0,0",
        )
        desk = desk_with(*rows)
        before = known(desk)
        for row in refused:
            self.assertIsNotNone(raised(desk.say, row), row)
            self.assertEqual(known(desk), before, row)
        twin = desk_with(*rows)
        for row in ("turn 1,1,1,1", "books", "rights", "turn 0,0,0,0", "turn 0,0,0,0", "books", "rights"):
            self.assertEqual(desk.say(row), twin.say(row))

    def test_two_desks_beside_one_another(self):
        one = desk_with("fill upper 5")
        other = Desk()
        self.assert_refused(other, "show", NO_HOUSE)
        before = known(one)
        other.say("house\n" + OTHER)
        other.say("turn 9")
        self.assertEqual(known(one), before)
        self.assert_told(other, "books", "0 9 5 4 0")
        one.say("turn 9,9,9,9")
        self.assert_told(other, "books", "0 9 5 4 0")
        self.assert_told(other, "rights", "none")
        other.say("house\n" + HOUSE)
        self.assertEqual(known(other), known(desk_with()))
        self.assertEqual(known(one), known(desk_with("fill upper 5", "turn 9,9,9,9")))


class Chance(Told):
    """Desks told rows by chance, beside what the document's words make of them."""

    def told_turn(self, desk, kept, cubes):
        page = page_by_words(kept["house"], kept["state"], kept["at"], cubes)
        told = " | ".join([" ".join([str(part) for part in row]) for row in page])
        self.assert_told(desk, "turn " + ",".join([str(number) for number in cubes]), told)
        kept["last"] = (kept["state"], kept["at"], cubes)
        kept["books"][1] += sum(cubes)
        kept["books"][2] += sum([row[1] for row in page])
        kept["books"][3] += gone_of(kept["house"], page)
        kept["state"] = behind_by_words(kept["house"], kept["state"], page)
        kept["at"] += 1

    def told_fill(self, desk, kept, place, level):
        kept_place = kept["house"][1][place]
        highest = kept_place[4] if kept_place[0] == "basin" else 0
        row = f"fill {kept_place[1]} {level}"
        if level > highest:
            self.assert_refused(desk, row, (NoLevel, [place]))
            return
        self.assert_told(desk, row, "ok")
        levels, coming = kept["state"]
        kept["state"] = (levels[:place] + (level,) + levels[place + 1:], coming)
        self.begin(kept)

    def begin(self, kept):
        kept["books"] = [water_of(kept["state"]), 0, 0, 0]
        kept["last"] = None

    def told_books_and_rights(self, desk, kept):
        numbers = kept["books"] + [water_of(kept["state"])]
        self.assert_told(desk, "books", " ".join([str(number) for number in numbers]))
        names = [place[1] for place in kept["house"][1]]
        found = rights_by_words(kept["house"], *kept["last"]) if kept["last"] else []
        lacking = [f"{name} by {names[dry]}" for name, dry in zip(names, found) if dry is not None]
        self.assert_told(desk, "rights", ", ".join(lacking) or "none")

    def told_look(self, desk, kept, chance):
        house = kept["house"]
        lows = [random_cubes(chance, len(house[1])) for turn in range(chance.randint(1, 4))]
        highs = [tuple([cubes + chance.choice((0, 0, 3)) for cubes in flood]) for flood in lows]
        ask = random_ask(chance, house, run(house, kept["state"], kept["at"], lows)[0])
        if ask is None or ask[3] < 0:
            return
        what, place, sense, number = ask
        told = look(house, kept["state"], kept["state"], kept["at"], lows, highs, ask)
        row = f"look {what} {house[1][place][1]} {sense} {number} {self.written(lows)} {self.written(highs)}"
        self.assert_told(desk, row, " ".join([str(word) for word in told]))

    def told_plan(self, desk, kept, chance):
        house, state, floods, pays, left = random_plan(chance, kept["house"], chance.randint(1, 3))
        most, pages, prices = plan(house, kept["state"], floods, pays, left)
        row = f"plan {self.written(floods)} {self.written(pays)} {self.written([left])}"
        self.assert_told(desk, row, f"{most} " + ",".join([str(price) for price in prices[0]]))

    def written(self, rows):
        return "/".join([",".join([str(number) for number in row]) for row in rows])

    def test_desks_by_chance(self):
        chance = random.Random(331)
        for number in range(60):
            house = checked(random_house(chance))
            desk = desk_with(house=shown_house(house))
            kept = {"house": house, "state": empty(house), "at": 0}
            self.begin(kept)
            for step in range(15):
                many = len(house[1])
                doing = chance.randrange(6)
                if doing == 0:
                    self.told_fill(desk, kept, chance.randrange(many), chance.randrange(16))
                elif doing == 1:
                    self.told_look(desk, kept, chance)
                elif doing == 2:
                    self.told_plan(desk, kept, chance)
                else:
                    self.told_turn(desk, kept, random_cubes(chance, many))
                self.told_books_and_rights(desk, kept)
            self.assert_told(desk, "show", shown_house(house))


if __name__ == "__main__":
    unittest.main()
