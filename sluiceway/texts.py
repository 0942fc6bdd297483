"""Rules and houses, written and read."""

from sluiceway.errors import NoText
from sluiceway.houses import KIND, LETTERS, PLACES, YEAR, checked

FIGURES = "0123456789"
MOST_FIGURES = 40
WAYS = ("river", "pump")
NO_PUMP = "none"

# How many words the row of a place has; a basin's rule, all that follows, counts as one.
BASIN_WORDS = 7
TOWN_WORDS = 6
MILL_WORDS = 5


def read_rule(text):
    """Tell the rule that a text writes."""
    return rule_in(text, 0)


def shown_rule(rule):
    """Tell the text of a rule."""
    return "; ".join([shown_season(first, stairs) for first, stairs in rule])


def read_house(text):
    """Tell the house that a text writes, once it is checked."""
    # Not by splitlines: a line end behind the last row begins one more row, which is none.
    rows = text.split("\n")
    year = year_in(rows[0])
    places = [place_in(row, number) for number, row in enumerate(rows[1:], start=1)]
    return checked((year, tuple(places)))


def shown_house(house):
    """Tell the text of a house."""
    year = house[YEAR]
    return "\n".join([f"year {year}"] + [shown_place(place) for place in house[PLACES]])


def shown_season(first, stairs):
    """Tell the text of a season."""
    if len(stairs) == 0:
        return f"{first}:"
    steps = ", ".join([f"{height}+{many} {way}" for height, many, way in stairs])
    return f"{first}: {steps}"


def shown_place(place):
    """Tell the row of a place."""
    if place[KIND] != "basin":
        return " ".join([str(part) for part in place])
    kind, name, down, delay, brim, rule, pump = place
    pump_text = shown_pump(pump)
    rule_text = shown_rule(rule)
    return f"{kind} {name} {down} {delay} {brim} {pump_text} {rule_text}"


def shown_pump(pump):
    """Tell the word of a pump."""
    if pump is None:
        return NO_PUMP
    return ",".join([str(part) for part in pump])


# Each def below reads a part of a text and is handed the number of the row, for the refusal.


def rule_in(text, row):
    """Read a rule."""
    return tuple([season_in(part, row) for part in text.split("; ")])


def season_in(text, row):
    """Read a season."""
    first, colon, steps = text.partition(":")
    if colon == "":
        raise NoText(row)
    return (number_in(first, row), stairs_in(steps, row))


def stairs_in(text, row):
    """Read all that follows the colon of a season."""
    if text == "":
        return ()
    if not text.startswith(" "):
        raise NoText(row)
    return tuple([step_in(part, row) for part in text[1:].split(", ")])


def step_in(text, row):
    """Read a step."""
    # Where the plus or the blank is missing, what should follow it is without signs, and so refused.
    height, plus, rest = text.partition("+")
    many, blank, way = rest.partition(" ")
    if way not in WAYS:
        raise NoText(row)
    return (number_in(height, row), number_in(many, row), way)


def year_in(text):
    """Read the first row of a house."""
    words = words_in(text, 2, 0)
    if words[0] != "year":
        raise NoText(0)
    return number_in(words[1], 0)


def place_in(text, row):
    """Read the row of a place."""
    kind = text.partition(" ")[0]
    if kind == "basin":
        return basin_in(text, row)
    if kind == "town":
        return town_or_mill_in(words_in(text, TOWN_WORDS, row), row)
    if kind == "mill":
        return town_or_mill_in(words_in(text, MILL_WORDS, row), row)
    raise NoText(row)


def basin_in(text, row):
    """Read the row of a basin."""
    words = text.split(" ", BASIN_WORDS - 1)
    if len(words) != BASIN_WORDS:
        raise NoText(row)
    kind, name, down, delay, brim, pump, rule = words
    river = (word_in(name, row), word_in(down, row), number_in(delay, row))
    return (kind,) + river + (number_in(brim, row), rule_in(rule, row), pump_in(pump, row))


def town_or_mill_in(words, row):
    """Read the words of a town or a mill, which are numbers behind the kind and the two names."""
    names = (word_in(words[1], row), word_in(words[2], row))
    return (words[0],) + names + tuple([number_in(word, row) for word in words[3:]])


def pump_in(text, row):
    """Read a pump."""
    if text == NO_PUMP:
        return None
    parts = text.split(",")
    if len(parts) != 3:
        raise NoText(row)
    return (word_in(parts[0], row), number_in(parts[1], row), number_in(parts[2], row))


def words_in(text, many, row):
    """Read so many words, parted by one blank."""
    words = text.split(" ")
    if len(words) != many:
        raise NoText(row)
    return words


def word_in(text, row):
    """Read a word where a name is asked; whether a place may bear it is not asked here."""
    if text == "" or not all([sign in LETTERS for sign in text]):
        raise NoText(row)
    return text


def number_in(text, row):
    """Read a number."""
    if not is_number(text):
        raise NoText(row)
    return int(text)


def is_number(text):
    """Tell whether a text writes a number."""
    if not 1 <= len(text) <= MOST_FIGURES or not all([sign in FIGURES for sign in text]):
        return False
    return text == "0" or not text.startswith("0")
