"""Floods between rows: what holds of every run between two states and two rows of floods, for some turns or ever."""

from sluiceway.errors import NoAsk, NoBounds, TooLong
from sluiceway.houses import KIND, PLACES, YEAR
from sluiceway.turns import LET, LIES, PUMPED, SPILLED, TOOK, run

# Of which kind of place each WHAT can be asked.
KINDS_ASKED = {"lies": "basin", "spilled": "basin", "let": "basin", "pumped": "basin", "took": "town"}
SENSES = ("least", "most")


def under(state, other):
    """Tell whether each number of a state is not above the other state's."""
    levels, coming = state
    other_levels, other_coming = other
    return none_above(levels, other_levels) and rows_under(coming, other_coming)


def rows_under(floods, others):
    """Tell whether there are as many floods as others, and each number is not above the other's."""
    if len(floods) != len(others):
        return False
    return all([none_above(flood, other) for flood, other in zip(floods, others)])


def none_above(numbers, others):
    """Tell whether there are as many numbers as others, and each is not above the other one."""
    if len(numbers) != len(others):
        return False
    return all([number <= other for number, other in zip(numbers, others)])


def look(house, low, high, at, lows, highs, ask):
    """Tell whether an ask is kept or broken by the runs between two states and two rows of floods, and where."""
    check_ask(house, ask)
    check_bounds(low, high, lows, highs)
    state, floods = looked_through(low, high, lows, highs, ask)
    pages, behind = run(house, state, at, floods)
    return answered(pages, ask)


def ever(house, state, floods, most=100):
    """Tell the states at the years' begins, until one of them comes again."""
    check_year(house, floods)
    states, pages = years_until_again(house, state, floods, most)
    return states


def look_ever(house, low, high, lows, highs, ask, most=100):
    """Tell as look does of runs for ever, in which each flood lies between those of its turn of the year."""
    check_ask(house, ask)
    # The higher row is held to the year by the lower one: rows that bound have as many floods.
    check_year(house, lows)
    check_bounds(low, high, lows, highs)
    state, floods = looked_through(low, high, lows, highs, ask)
    states, pages = years_until_again(house, state, floods, most)
    return answered(pages, ask)


def check_ask(house, ask):
    """Refuse an ask that can't be asked of the house."""
    what, place, sense, number = ask
    if sense not in SENSES or what not in KINDS_ASKED:
        raise NoAsk("an ask is of another word than these")
    if not 0 <= place < len(house[PLACES]):
        raise NoAsk("an ask is of a place that is not there")
    if house[PLACES][place][KIND] != KINDS_ASKED[what]:
        raise NoAsk("an ask is of a place of another kind")


def check_bounds(low, high, lows, highs):
    """Refuse states and rows of which the first is not under the second."""
    if not under(low, high) or not rows_under(lows, highs):
        raise NoBounds("a state or a row of floods is not under the other one")


def check_year(house, floods):
    """Refuse floods that are not one for each turn of the year."""
    if len(floods) != house[YEAR]:
        raise NoBounds("there is not a flood for each turn of the year")


def looked_through(low, high, lows, highs, ask):
    """Tell the state and the floods whose run tells of all the others, since more water never harms."""
    what, place, sense, number = ask
    if sense == "least":
        return (low, lows)
    return (high, highs)


def years_until_again(house, state, floods, most):
    """Tell the states at the years' begins until one of them comes again, and the pages of these years."""
    states = [state]
    pages = []
    while states[-1] not in states[:-1]:
        # There have been as many years as states but the first one, and one more must be run.
        if len(states) > most:
            raise TooLong(most)
        year, behind = run(house, states[-1], 0, floods)
        pages.extend(year)
        states.append(behind)
    return (states, pages)


def answered(pages, ask):
    """Tell whether the pages break an ask, first where, or else how near they come, first where."""
    what, place, sense, number = ask
    part = part_asked(what)
    found = [page[place][part] for page in pages]
    for when, cubes in enumerate(found):
        if is_beyond(cubes, sense, number):
            return ("broken", when, cubes)
    if len(found) == 0:
        return ("kept", None, None)
    nearest = min(found) if sense == "least" else max(found)
    return ("kept", found.index(nearest), nearest)


def is_beyond(cubes, sense, number):
    """Tell whether so many cubes are less than the number asked as the least, or more than that asked as the most."""
    if sense == "least":
        return cubes < number
    return cubes > number


def part_asked(what):
    """Tell where a WHAT stands in a row of a page."""
    return {"lies": LIES, "spilled": SPILLED, "let": LET, "pumped": PUMPED, "took": TOOK}[what]
