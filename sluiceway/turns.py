"""Turns: what comes to each place of a house, what becomes of it there, and where it goes."""

from sluiceway.errors import NoLevel
from sluiceway.houses import (
    BRIM, DELAY, KIND, NEED, PLACES, PUMP, PUMP_DELAY, PUMP_TO, RANK, RULE, YEAR, down_of, number_of,
)
from sluiceway.reaches import dry, passed, shares
from sluiceway.rules import opened, stairs_at

NOTHING_ON_ITS_WAY = (0, 0, 0, 0, 0)

# Where the parts of a row of a page stand in its tuple.
CAME = 0
TOOK = 1
SPILLED = 2
LET = 3
PUMPED = 4
LIES = 5


def start(house, levels):
    """Tell the state with these levels and nothing on its way."""
    for number, place in enumerate(house[PLACES]):
        highest = place[BRIM] if place[KIND] == "basin" else 0
        if not 0 <= levels[number] <= highest:
            raise NoLevel(number)
    return (tuple(levels), tuple([NOTHING_ON_ITS_WAY for level in levels]))


def turn(house, state, at, flood):
    """Tell the page of a turn, and the state behind it."""
    course = Course(house, state, at, flood)
    course.go()
    return (tuple(course.page), course.state_behind())


def rights(house, state, at, flood):
    """Tell for each place the dry place of a town that takes less than its need in the turn, else None."""
    course = Course(house, state, at, flood)
    course.go()
    found = [None] * len(house[PLACES])
    for members, rows in course.reaches:
        for number, place in zip(members, dry(rows)):
            if place is not None:
                found[number] = members[place]
    return found


def run(house, state, at, floods):
    """Tell the list of pages of a run, and the state behind it."""
    pages = []
    for number, flood in enumerate(floods, start=at):
        page, state = turn(house, state, number, flood)
        pages.append(page)
    return (pages, state)


class Course:
    """A turn while it is run: what has come to each place so far, and what is known behind it."""

    def __init__(self, house, state, at, flood):
        levels, coming = state
        self.house = house
        self.levels = levels
        self.year_turn = at % house[YEAR]
        self.came = [cubes + ahead[0] for cubes, ahead in zip(flood, coming)]
        self.coming = [list(ahead[1:]) + [0] for ahead in coming]
        self.page = [None] * len(levels)
        self.reaches = []

    def go(self):
        """Run each basin and each reach once all that comes to it has come."""
        # A reach waits for its last place: what flows into its places comes from places told ahead of them,
        # and nothing leaves it but from the last one.
        lasts = lasts_of_reaches(self.house)
        for number, last in enumerate(lasts):
            if self.house[PLACES][number][KIND] == "basin":
                self.go_basin(number)
            elif last == number:
                self.go_reach([member for member, end in enumerate(lasts) if end == number])

    def go_basin(self, number):
        """Open a basin by the stairs of the turn, and spill what is above the brim."""
        place = self.house[PLACES][number]
        came = self.came[number]
        let, pumped, stays = opened(stairs_at(place[RULE], self.year_turn), self.levels[number] + came)
        lies = min(stays, place[BRIM])
        spilled = stays - lies
        self.page[number] = (came, 0, spilled, let, pumped, lies)
        self.send_down(number, let + spilled)
        if place[PUMP] is not None:
            self.send(number_of(self.house, place[PUMP][PUMP_TO]), place[PUMP][PUMP_DELAY], pumped)

    def go_reach(self, members):
        """Serve the towns of a reach, and let the rest go by."""
        rows = reach_rows(self.house, members, self.came)
        takes = shares(rows)
        for number, took, let in zip(members, takes, passed(rows, takes)):
            # All that came, from places of the reach too, is what was taken and what goes by.
            self.page[number] = (took + let, took, 0, let, 0, 0)
            if number == members[-1]:
                self.send_down(number, let)
        self.reaches.append((members, rows))

    def send_down(self, number, cubes):
        """Send cubes down the river of a place."""
        down = down_of(self.house, number)
        if down is not None:
            self.send(down, self.house[PLACES][number][DELAY], cubes)

    def send(self, to, delay, cubes):
        """Send cubes to a place, where they come in so many turns."""
        if delay == 0:
            self.came[to] += cubes
        else:
            self.coming[to][delay - 1] += cubes

    def state_behind(self):
        """Tell the state behind the turn."""
        return (tuple([row[LIES] for row in self.page]), tuple([tuple(ahead) for ahead in self.coming]))


def lasts_of_reaches(house):
    """Tell for each place the last place of its reach, for a basin itself."""
    lasts = list(range(len(house[PLACES])))
    for number in range(len(house[PLACES]) - 1, -1, -1):
        down = down_in_reach(house, number)
        if down is not None:
            lasts[number] = lasts[down]
    return lasts


def down_in_reach(house, number):
    """Tell the place of the same reach to which the river of a place leads, None where there is none."""
    places = house[PLACES]
    down = down_of(house, number)
    if down is None or places[number][DELAY] > 0:
        return None
    if places[number][KIND] == "basin" or places[down][KIND] == "basin":
        return None
    return down


def reach_rows(house, members, came):
    """Tell the rows of the reach of these places, to which so much came from outside the reach."""
    rows = []
    for number in members:
        place = house[PLACES][number]
        down = down_in_reach(house, number)
        row_down = None if down is None else members.index(down)
        if place[KIND] == "town":
            rows.append((row_down, came[number], place[NEED], place[RANK]))
        else:
            rows.append((row_down, came[number], 0, 0))
    return rows
