"""Plans: what pages earn, and pages that earn most of all that are possible, with prices."""

from sluiceway.flows import best
from sluiceway.houses import (
    BRIM, DELAY, KIND, MOST, NEED, PLACES, PUMP, PUMP_DELAY, PUMP_MOST, PUMP_TO, down_of, number_of,
)
from sluiceway.turns import LET, LIES, PUMPED, TOOK

# How many numbers a row of a page has.
PARTS = 6


def earned(house, pages, pays, left):
    """Tell what pages earn by the pays of each turn, and by what a cube that lies behind the last one is worth."""
    if len(pages) == 0:
        return 0
    basins = [number for number, place in enumerate(house[PLACES]) if place[KIND] == "basin"]
    lying = sum([pages[-1][number][LIES] * left[number] for number in basins])
    return lying + sum([earned_in_turn(house, page, pay) for page, pay in zip(pages, pays)])


def earned_in_turn(house, page, pay):
    """Tell what a page earns by the pays of its turn."""
    told = 0
    for number, place in enumerate(house[PLACES]):
        if place[KIND] == "town":
            told += page[number][TOOK] * pay[number]
        elif place[KIND] == "mill":
            told += min(page[number][LET], place[MOST]) * pay[number]
        else:
            told -= page[number][PUMPED] * pay[number]
    return told


def plan(house, state, floods, pays, left):
    """Tell what is earned most, pages that earn it, and what one cube more would earn in each turn at each place."""
    draft = Draft(house, pays, left)
    supplies = supplies_of(state, floods)
    most, flow, prices = best(len(supplies), draft.arcs, supplies)
    many = len(house[PLACES])
    rows = [tuple(prices[first:first + many]) for first in range(0, len(prices), many)]
    return (most, draft.pages_by(state, flow), rows)


def supplies_of(state, floods):
    """Tell, turn by turn and place by place, what comes there whatever is planned, or lies there at the first."""
    levels, coming = state
    supplies = []
    for when, flood in enumerate(floods):
        for number, cubes in enumerate(flood):
            # Behind the turns of which a state tells nothing more is on its way.
            ahead = coming[number][when] if when < len(coming[number]) else 0
            lay = levels[number] if when == 0 else 0
            supplies.append(cubes + ahead + lay)
    return supplies


class Draft:
    """The net of a plan: a node for each turn and place, and an arc for each thing that can become of water there.

    Of each arc the spot is kept, (turn, place, part of the row), at which a page tells what goes along it.
    """

    def __init__(self, house, pays, left):
        self.house = house
        self.turns = len(pays)
        self.arcs = []
        self.spots = []
        for when, pay in enumerate(pays):
            for number, place in enumerate(house[PLACES]):
                if place[KIND] == "town":
                    self.draw_town(when, number, pay[number])
                elif place[KIND] == "mill":
                    self.draw_mill(when, number, pay[number])
                else:
                    self.draw_basin(when, number, pay[number], left[number])

    def node_at(self, when, number):
        """Tell the node of a turn and a place: the goal for the sea, and for turns behind the plan."""
        many = len(self.house[PLACES])
        if number is None or when >= self.turns:
            return self.turns * many
        return when * many + number

    def draw(self, spot, end, most, gain):
        """Draw an arc to the node `end`, on which so much can go at most, and each cube earns the gain."""
        when, number, part = spot
        self.arcs.append((self.node_at(when, number), end, most, gain))
        self.spots.append(spot)

    def draw_river(self, when, number, most, gain):
        """Draw an arc down the river of a place."""
        end = self.node_at(when + self.house[PLACES][number][DELAY], down_of(self.house, number))
        self.draw((when, number, LET), end, most, gain)

    def draw_town(self, when, number, pay):
        """Draw what a town takes and what goes by it."""
        self.draw((when, number, TOOK), self.node_at(when, None), self.house[PLACES][number][NEED], pay)
        self.draw_river(when, number, None, 0)

    def draw_mill(self, when, number, pay):
        """Draw what goes by a mill: as much as is paid, and the rest."""
        self.draw_river(when, number, self.house[PLACES][number][MOST], pay)
        self.draw_river(when, number, None, 0)

    def draw_basin(self, when, number, pay, left):
        """Draw what a basin lets go, what it pumps and what it keeps."""
        place = self.house[PLACES][number]
        self.draw_river(when, number, None, 0)
        if place[PUMP] is not None:
            end = self.node_at(when + place[PUMP][PUMP_DELAY], number_of(self.house, place[PUMP][PUMP_TO]))
            self.draw((when, number, PUMPED), end, place[PUMP][PUMP_MOST], -pay)
        is_last = when == self.turns - 1
        self.draw((when, number, LIES), self.node_at(when + 1, number), place[BRIM], left if is_last else 0)

    def pages_by(self, state, flow):
        """Tell the pages of a plan from a state, where so much goes along each arc."""
        many = len(self.house[PLACES])
        rows = [[0] * PARTS for node in range(self.turns * many)]
        for spot, cubes in zip(self.spots, flow):
            when, number, part = spot
            rows[self.node_at(when, number)][part] += cubes
        pages = []
        lay = state[0]
        for first in range(0, len(rows), many):
            page = [row_with_came(row, level) for row, level in zip(rows[first:first + many], lay)]
            lay = [row[LIES] for row in page]
            pages.append(tuple(page))
        return pages


def row_with_came(row, lay):
    """Tell the row of a page with what came: what became of the water there, less what lay there."""
    return tuple([sum(row[TOOK:]) - lay] + row[TOOK:])
