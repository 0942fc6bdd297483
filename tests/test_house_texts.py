"""How a house is written and read [10]."""

import copy
import random
import re
import unittest

from builders import GREAT, basin, bent_texts, forest, line, mill, raised, random_house, town
from sluiceway.errors import NoHouse, NoName, NoPump, NoRiver, NoRule, NoText
from sluiceway.houses import checked
from sluiceway.texts import read_house, shown_house

NUMBER = "(?:0|[1-9][0-9]{0,39})"
STEP = rf"{NUMBER}\+{NUMBER} (?:river|pump)"
SEASON = f"{NUMBER}:(?: {STEP}(?:, {STEP})*)?"
RIVER = f"([a-z]+) ([a-z]+) ({NUMBER})"
YEAR = re.compile(f"year ({NUMBER})")
BASIN = re.compile(f"(basin) {RIVER} ({NUMBER}) (none|[a-z]+,{NUMBER},{NUMBER}) ({SEASON}(?:; {SEASON})*)")
TOWN = re.compile(f"(town) {RIVER} ({NUMBER}) ({NUMBER})")
MILL = re.compile(f"(mill) {RIVER} ({NUMBER})")
SIGNS = "017aersx ,:;+-\nN."

TEXT = """year 12
basin alder birch 1 80 cedar,2,5 0: 40+10 river, 60+5 pump; 6:
town birch cedar 0 6 1
basin cedar elm 0 0 none 0:
mill dill elm 5 9
town elm sea 0 0 0"""
HOUSE = (12, (
    ("basin", "alder", "birch", 1, 80, ((0, ((40, 10, "river"), (60, 5, "pump"))), (6, ())), ("cedar", 2, 5)),
    ("town", "birch", "cedar", 0, 6, 1),
    ("basin", "cedar", "elm", 0, 0, ((0, ()),), None),
    ("mill", "dill", "elm", 5, 9),
    ("town", "elm", "sea", 0, 0, 0),
))
SMALL = "year 2\nbasin a b 0 9 b,1,3 0: 4+3 pump; 1:\nmill b sea 1 5"
BASIN_ROW = "basin a sea 0 9 none 0: 4+3 river; 1:"


def rule_of(text):
    """The rule that a good text writes."""
    seasons = []
    for season in text.split("; "):
        steps = re.findall(r"(\d+)\+(\d+) (\w+)", season)
        first = re.match(r"\d+", season).group()
        seasons.append((int(first), tuple([(int(height), int(many), way) for height, many, way in steps])))
    return tuple(seasons)


def place_of(row):
    """The place that a good row writes, None where it is not good."""
    found = BASIN.fullmatch(row) or TOWN.fullmatch(row) or MILL.fullmatch(row)
    if found is None:
        return None
    words = found.groups()
    if words[0] != "basin":
        return words[:3] + tuple([int(word) for word in words[3:]])
    to, comma, numbers = words[5].partition(",")
    pump = (to,) + tuple([int(word) for word in numbers.split(",")]) if comma else None
    return words[:3] + (int(words[3]), int(words[4]), rule_of(words[6]), pump)


def due(text):
    """What is due of a text: the house, or the class and the field of the refusal."""
    rows = text.split("\n")
    year = YEAR.fullmatch(rows[0])
    places = [place_of(row) for row in rows[1:]]
    if year is None:
        return (NoText, [0])
    if None in places:
        return (NoText, [1 + places.index(None)])
    house = (int(year.group(1)), tuple(places))
    return raised(checked, house) or house


def put(number, row):
    """The text with another row for one of its rows."""
    rows = TEXT.split("\n")
    rows[number] = row
    return "\n".join(rows)


class HouseTexts(unittest.TestCase):
    def assert_refused(self, refusal, field, text):
        with self.subTest(text):
            self.assertEqual(raised(read_house, text), (refusal, field))

    def assert_no_text(self, row, text):
        self.assert_refused(NoText, [row], text)

    def assert_no_row(self, text):
        """The row is refused at the first, a middle and the last place of the rows of places."""
        for number in (1, 3, 5):
            self.assert_no_text(number, put(number, text))

    def assert_written_and_read(self, house):
        before = copy.deepcopy(house)
        self.assertEqual(read_house(shown_house(house)), house)
        self.assertEqual(house, before)

    def assert_due(self, text):
        with self.subTest(text):
            told = raised(read_house, text) or read_house(text)
            self.assertEqual(told, due(text))


class WrittenAndRead(HouseTexts):
    def test_all_kinds_with_and_without_a_pump(self):
        self.assertEqual(shown_house(HOUSE), TEXT)
        self.assertEqual(read_house(TEXT), HOUSE)
        self.assert_written_and_read(HOUSE)
        self.assert_written_and_read((4, tuple(line())))

    def test_what_is_read_is_of_tuples(self):
        house = read_house(TEXT)
        self.assertEqual([type(thing) for thing in (house, house[1], house[1][0], house[1][1])], [tuple] * 4)
        self.assertEqual([type(part) for part in house[1][0]], [str, str, str, int, int, tuple, tuple])
        self.assertEqual([type(part) for part in house[1][0][6]], [str, int, int])
        self.assertEqual([type(part) for part in house[1][1]], [str, str, str, int, int, int])
        self.assertEqual([type(part) for part in house[1][3]], [str, str, str, int, int])

    def test_one_place_of_each_kind(self):
        self.assertEqual(read_house("year 1\nmill a sea 0 0"), (1, (mill("a", most=0),)))
        self.assertEqual(read_house("year 24\ntown a sea 5 0 0"), (24, (town("a", "sea", 5, 0, 0),)))
        self.assertEqual(read_house("year 3\nbasin a sea 2 7 none 0:"), (3, (basin("a", "sea", 2, 7, ((0, ()),)),)))
        for place in (mill("a"), town("a"), basin("a")):
            self.assert_written_and_read((1, (place,)))

    def test_twelve_places(self):
        self.assert_written_and_read((24, forest(12)))

    def test_places_called_by_words_of_the_text(self):
        names = ("none", "year", "basin", "town", "mill", "river", "pump", "seas")
        house = (1, tuple([basin(name, pump=("none" if name != "none" else "year", 1, 3)) for name in names]))
        self.assert_written_and_read(house)

    def test_numbers_of_0_and_of_forty_figures(self):
        for size in (0, 1, 9, 10, GREAT, 10 ** 39):
            places = (
                basin("a", "b", 0, size, ((0, ((size, size + 1 if size < GREAT else 1, "river"),)),), ("b", 5, size)),
                town("b", "c", 5, size, size),
                mill("c", "sea", 0, size),
            )
            self.assert_written_and_read((1, places))

    def test_houses_by_chance(self):
        chance = random.Random(10)
        for number in range(200):
            house = random_house(chance)
            self.assert_written_and_read(house)
            self.assert_due(shown_house(house))


class NoRows(HouseTexts):
    def test_no_signs(self):
        self.assert_no_text(0, "")
        self.assert_no_text(0, "\n")
        self.assert_no_text(0, "\n" + TEXT)
        self.assert_no_text(1, "year 1\n")
        self.assert_no_text(1, "year 1\n\n")
        self.assert_no_row("")
        self.assert_no_row(" ")

    def test_a_line_end_behind_the_last_row(self):
        self.assert_no_text(6, TEXT + "\n")
        self.assert_no_text(6, TEXT + "\n\n")
        self.assert_no_text(3, SMALL + "\n")
        self.assert_no_text(2, SMALL + "\r\n")

    def test_other_line_ends(self):
        for end in ("\r", "\r\n", "\x0b", "\x0c", "\x1c", "\x85", "\n\r"):
            self.assert_due(TEXT.replace("\n", end))
            self.assertEqual(raised(read_house, TEXT.replace("\n", end))[0], NoText)

    def test_the_first_row(self):
        for row in ("year", "year ", "year  12", " year 12", "year 12 ", "year 12 1", "12", "12 year", "Year 12"):
            self.assert_no_text(0, put(0, row))
        for row in ("years 12", "yea 12", "year none", "year 012", "year +1", "year -1", "year " + "1" * 41, "mill 12"):
            self.assert_no_text(0, put(0, row))
        self.assert_no_text(0, TEXT.partition("\n")[2])

    def test_the_row_of_the_year_at_a_later_place(self):
        self.assert_no_row("year 12")

    def test_too_few_and_too_many_words(self):
        for row in ("town x sea 0 6 1", "mill x sea 0 9", BASIN_ROW):
            words = row.split(" ")
            for many in range(len(words)):
                left = " ".join(words[:many] + words[many + 1:])
                if place_of(left) is None:
                    self.assert_no_row(left)
                cut = " ".join(words[:many])
                if place_of(cut) is None:
                    self.assert_no_row(cut)
                for more in ("x", "1", "none", "sea"):
                    self.assert_no_row(" ".join(words[:many] + [more] + words[many:]))
            for more in ("0", "x", "none", "0:"):
                self.assert_no_row(f"{row} {more}")
        self.assert_no_row("town x sea 0 6")
        self.assert_no_row("mill x sea 0 9 1")
        self.assert_no_row("basin x sea 0 9 none")
        self.assert_no_row("basin x sea 0 9 none ")
        self.assert_no_row("basin x sea 0 9 0:")

    def test_blanks_ahead_behind_and_doubled(self):
        for row in ("town x sea 0 6 1", "mill x sea 0 9", BASIN_ROW):
            for place in [place for place, sign in enumerate(row) if sign == " "]:
                self.assert_no_row(row[:place] + " " + row[place:])
                self.assert_no_row(row[:place] + "\t" + row[place + 1:])
            for bent in (" " + row, row + " ", "\t" + row, row + "\t"):
                self.assert_no_row(bent)

    def test_an_unknown_first_word(self):
        for word in ("", "lake", "Basin", "TOWN", "mills", "mil", "towns", "none", "sea", "0"):
            for rest in ("x sea 0 6 1", "x sea 0 9", "x sea 0 9 none 0:"):
                self.assert_no_row(f"{word} {rest}")
            self.assert_no_row(word)

    def test_first_words_of_other_kinds(self):
        for row in ("basin x sea 0 6 1", "mill x sea 0 6 1", "town x sea 0 9", "basin x sea 0 9"):
            self.assert_no_row(row)
        for row in ("town x sea 0 9 none 0:", "mill x sea 0 9 none 0:"):
            self.assert_no_row(row)

    def test_no_name(self):
        for word in ("", "X", "xY", "x1", "1", "x_y", "x-y", "x,y", "SEA", "\u00e9", "\u0430"):
            self.assert_no_row(f"town {word} sea 0 6 1")
            self.assert_no_row(f"mill x {word} 0 6")
            self.assert_no_row(f"basin {word} sea 0 6 none 0:")
            self.assert_no_row(f"basin x {word} 0 6 none 0:")
            self.assert_no_row(f"basin x sea 0 6 {word},1,5 0:")

    def test_no_number(self):
        for word in ("", "x", "none", "-1", "+1", "01", "00", "1.0", "1_0", "1,0", "1" * 41, "0" * 40, "\u0661"):
            for pattern in ("town x sea {} 6 1", "town x sea 0 {} 1", "town x sea 0 6 {}", "mill x sea {} 9"):
                self.assert_no_row(pattern.replace("{}", word))
            for pattern in ("mill x sea 0 {}", "basin x sea {} 9 none 0:", "basin x sea 0 {} none 0:"):
                self.assert_no_row(pattern.replace("{}", word))
            for pattern in ("x,{},5", "x,1,{}"):
                self.assert_no_row("basin y sea 0 9 " + pattern.replace("{}", word) + " 0:")

    def test_no_pump(self):
        for pump in ("", ",", ",,", "x", "x,1", "x,1,", "x,,1", ",1,1", "x,1,1,", "x,1,1,1", ",x,1,1", "x;1;1"):
            self.assert_no_row(f"basin y sea 0 9 {pump} 0:")
        for pump in ("None", "NONE", "non", "nones", "none,", "none,none,none", "x,none,1", "x,1,none", "x, 1, 1", "0"):
            self.assert_no_row(f"basin y sea 0 9 {pump} 0:")

    def test_no_rule(self):
        for rule in ("", "0", "0: ", ":", "0:;", "0:; ", " 0:", "0: 1+1", "0: 1+1 s", "0: 1+1 pump,", "0:  1+1 pump"):
            self.assert_no_row(f"basin y sea 0 9 none {rule}")
        for rule in ("none", "0: 1 river", "00:", "-1:", "0: 1+" + "1" * 41 + " river", "0:\t", "0: 1+1 River", "0:0:"):
            self.assert_no_row(f"basin y sea 0 9 x,1,1 {rule}")

    def test_the_first_of_several_rows_that_are_not_so(self):
        bad = ("years 12", "basin", "town 1", "basin cedar elm 0 0 none 0", "", "town elm sea 0 0 none")
        for first in range(6):
            rows = TEXT.split("\n")
            self.assert_no_text(first, "\n".join(rows[:first] + list(bad[first:])))
            for second in range(first + 1, 6):
                rows = TEXT.split("\n")
                rows[first] = bad[first]
                rows[second] = bad[second]
                self.assert_no_text(first, "\n".join(rows))

    def test_each_sign_bent(self):
        for bent in bent_texts(TEXT, SIGNS) + bent_texts(SMALL, SIGNS):
            self.assert_due(bent)


class ThenChecked(HouseTexts):
    def test_no_house(self):
        self.assert_refused(NoHouse, [], put(0, "year 0"))
        self.assert_refused(NoHouse, [], put(0, "year 25"))
        self.assert_refused(NoHouse, [], put(0, "year " + "9" * 40))
        self.assert_refused(NoHouse, [], "year 12")
        self.assert_refused(NoHouse, [], shown_house((12, forest(13))))

    def test_words_that_are_no_names(self):
        for word in ("abcdefghi", "a" * 100, "sea"):
            self.assert_refused(NoName, [0], put(1, f"mill {word} sea 0 1"))
            self.assert_refused(NoName, [2], put(3, f"basin {word} sea 0 1 none 0:").replace("cedar", word))
            self.assert_refused(NoName, [4], put(5, f"town {word} sea 0 1 1").replace("elm", word))
        self.assert_refused(NoRiver, [0], put(1, "mill alder abcdefghi 0 1"))
        self.assert_refused(NoPump, [0], put(1, "basin alder sea 0 1 abcdefghi,1,1 0:"))

    def test_names_borne_twice(self):
        self.assert_refused(NoName, [3], put(4, "mill birch elm 5 9"))
        self.assert_refused(NoName, [4], put(5, "town alder sea 0 0 0").replace("elm", "alder"))

    def test_rivers(self):
        for number in (1, 3, 5):
            name = TEXT.split("\n")[number].split(" ")[1]
            for river in ("fir 0", "alder 0", f"{name} 0", "sea 6", "sea " + "9" * 40):
                self.assert_refused(NoRiver, [number - 1], put(number, f"mill {name} {river} 1"))
                self.assert_refused(NoRiver, [number - 1], put(number, f"town {name} {river} 1 1"))
                self.assert_refused(NoRiver, [number - 1], put(number, f"basin {name} {river} 1 none 0:"))

    def test_numbers_below_0_are_not_written(self):
        self.assert_no_row("town x sea 0 -1 1")

    def test_pumps(self):
        for number in (1, 3, 5):
            name = TEXT.split("\n")[number].split(" ")[1]
            for pump in ("fir,1,9", "sea,1,9", f"{name},1,9", "dill,0,9", "dill,6,9", "none,1,9"):
                self.assert_refused(NoPump, [number - 1], put(number, f"basin {name} sea 0 9 {pump} 0:"))

    def test_rules(self):
        rules = ("1:", "0:; 0:", "0:; 2:; 1:", "0:; 12:", "0: 5+0 river", "0: 5+4 river, 8+1 river", "0: 0+1 pump")
        for number in (1, 3, 5):
            name = TEXT.split("\n")[number].split(" ")[1]
            for rule in rules:
                self.assert_refused(NoRule, [number - 1], put(number, f"basin {name} sea 0 9 none {rule}"))
            self.assert_refused(NoRule, [number - 1], put(number, f"basin {name} sea 0 9 dill,1,4 0: 0+5 pump"))

    def test_no_text_goes_ahead_of_what_checked_refuses(self):
        faults = (
            ("year 25", "mill a sea 0 1"),
            ("year 12", "mill abcdefghi sea 0 1"),
            ("year 12", "mill a fir 0 1"),
            ("year 12", "mill a sea 6 1"),
            ("year 12", "basin a sea 0 1 fir,1,1 0:"),
            ("year 12", "basin a sea 0 1 none 1:"),
        )
        for year, row in faults:
            self.assertNotEqual(raised(read_house, f"{year}\n{row}"), None)
            self.assertNotEqual(raised(read_house, f"{year}\n{row}")[0], NoText)
            self.assert_no_text(2, f"{year}\n{row}\nmill b sea 0")
            self.assert_no_text(2, f"{year}\n{row}\n")
            self.assert_no_text(3, f"{year}\n{row}\nmill b sea 0 1\nbasin c sea 0 9 none 0")
        self.assert_no_text(14, shown_house((12, forest(13))) + "\n")

    def test_the_first_of_several_that_checked_refuses(self):
        self.assert_refused(NoHouse, [], "year 0\nmill sea sea 0 1")
        self.assert_refused(NoRule, [0], "year 1\nbasin a sea 0 1 none 1:\nmill sea sea 0 1")
        self.assert_refused(NoName, [0], "year 1\nmill sea fir 9 1")


if __name__ == "__main__":
    unittest.main()
