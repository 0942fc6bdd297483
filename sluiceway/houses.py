"""Names, places and houses, and which houses are good."""

from sluiceway.errors import NoHouse, NoName, NoNumber, NoPump, NoRiver, NoRule

LETTERS = "abcdefghijklmnopqrstuvwxyz"
SEA = "sea"

# Where the parts of a house stand in its tuple.
YEAR = 0
PLACES = 1

# Where the parts of a place stand in its tuple: of every place, then of a basin, a town and a mill.
KIND = 0
NAME = 1
DOWN = 2
DELAY = 3

BRIM = 4
RULE = 5
PUMP = 6

NEED = 4
RANK = 5

MOST = 4

# Where the parts of a pump stand in its tuple.
PUMP_TO = 0
PUMP_DELAY = 1
PUMP_MOST = 2


def is_name(thing):
    """Tell whether a text is a name that a place may bear."""
    if thing == SEA or not 1 <= len(thing) <= 8:
        return False
    return all([sign in LETTERS for sign in thing])


def checked(house):
    """Tell the house that is handed in, or refuse it with the first refusal that is due."""
    places = house[PLACES]
    if not 1 <= house[YEAR] <= 24 or not 1 <= len(places) <= 12:
        raise NoHouse("a house has a year of 1 to 24 turns, and 1 to 12 places")
    for number in range(len(places)):
        check_place(house, number)
    return house


def check_place(house, number):
    """Refuse the place if it is not good within its house."""
    places = house[PLACES]
    place = places[number]
    # Names that are none are kept in these lists: their own places are refused for them, in their turn.
    ahead = [other[NAME] for other in places[:number]]
    later = [other[NAME] for other in places[number + 1:]]
    if not is_name(place[NAME]) or place[NAME] in ahead:
        raise NoName(number)
    if not is_river_good(place, later):
        raise NoRiver(number)
    if min(numbers_in(place)) < 0:
        raise NoNumber(number)
    if place[KIND] == "basin":
        if not is_pump_good(place[PUMP], ahead + later):
            raise NoPump(number)
        if not is_rule_good(place[RULE], place[PUMP], house[YEAR]):
            raise NoRule(number)


def is_river_good(place, later):
    """Tell whether a place's river leads to the sea or to one of the later names, with a delay that may be."""
    return (place[DOWN] == SEA or place[DOWN] in later) and 0 <= place[DELAY] <= 5


def numbers_in(place):
    """Tell the numbers of a place that may be any from 0 on."""
    if place[KIND] == "town":
        return [place[NEED], place[RANK]]
    if place[KIND] == "mill":
        return [place[MOST]]
    if place[PUMP] is None:
        return [place[BRIM]]
    return [place[BRIM], place[PUMP][PUMP_MOST]]


def is_pump_good(pump, others):
    """Tell whether there is no pump, or one that leads to one of the other names, with a delay that may be."""
    if pump is None:
        return True
    return pump[PUMP_TO] in others and 1 <= pump[PUMP_DELAY] <= 5


def is_rule_good(rule, pump, year):
    """Tell whether a rule is good for a basin with this pump, or None, in a year of so many turns."""
    if not are_seasons_good(rule, year):
        return False
    for first, stairs in rule:
        if not are_steps_good(stairs) or not can_pump(stairs, pump):
            return False
    return True


def are_seasons_good(rule, year):
    """Tell whether the seasons begin at turn 0, each behind the one ahead of it, and all within the year."""
    if len(rule) == 0 or rule[0][0] != 0:
        return False
    ahead = -1
    for first, stairs in rule:
        if not ahead < first < year:
            return False
        ahead = first
    return True


def are_steps_good(stairs):
    """Tell whether each step has cubes, and begins no lower than the one ahead of it ends."""
    end = 0
    for height, many, way in stairs:
        if height < end or many < 1:
            return False
        end = height + many
    return True


def can_pump(stairs, pump):
    """Tell whether the pump can take all that the steps of one season may pump at once."""
    pumped = [many for height, many, way in stairs if way == "pump"]
    if pump is None:
        return len(pumped) == 0
    return sum(pumped) <= pump[PUMP_MOST]


def number_of(house, name):
    """Tell the number of the place that bears the name."""
    for number, place in enumerate(house[PLACES]):
        if place[NAME] == name:
            return number
    raise NoName(None)


def down_of(house, place):
    """Tell the number of the place to which the river of this place leads, None for the sea."""
    name = house[PLACES][place][DOWN]
    if name == SEA:
        return None
    return number_of(house, name)
