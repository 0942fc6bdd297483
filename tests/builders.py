"""What several tests share.

Places and houses: good ones, of which a test changes just what it is about, or made by chance. Texts bent sign by
sign. Runs, asks, nets and plans made by chance. What reaches, turns and asks come to, and all flows and pages that are
possible, reckoned straight by the words of the document.
"""

from sluiceway.errors import WaterError
from sluiceway.houses import checked, down_of
from sluiceway.turns import start

PLAIN = ((0, ((10, 5, "river"),)),)
SHUT = ((0, ()),)
WIDE = ((0, ((0, 10 ** 50, "river"),)),)
QUIET = (0, 0, 0, 0, 0)
GREAT = 10 ** 40 - 1
# Where what can be asked of a place stands in a row of a page.
PARTS = {"took": 1, "spilled": 2, "let": 3, "pumped": 4, "lies": 5}
NAMES = ("alder", "birch", "cedar", "dill", "elm")
DOWNS = ("birch", "cedar", "elm", "elm", "sea")


def basin(name, down="sea", delay=0, brim=100, rule=PLAIN, pump=None):
    return ("basin", name, down, delay, brim, rule, pump)


def town(name, down="sea", delay=0, need=3, rank=1):
    return ("town", name, down, delay, need, rank)


def mill(name, down="sea", delay=0, most=7):
    return ("mill", name, down, delay, most)


def line():
    """Five good places of all three kinds, rivers and pumps leading this way and that."""
    return [
        basin("alder", "birch", 1),
        town("birch", "cedar"),
        basin("cedar", "elm", 2, pump=("alder", 1, 4), rule=((0, ((5, 4, "pump"),)), (2, ()))),
        mill("dill", "elm"),
        basin("elm", "sea", 0, pump=("birch", 5, 0)),
    ]


def house_with(number, place, year=4):
    """The line with one of its places changed for another."""
    places = line()
    places[number] = place
    return (year, tuple(places))


def house_of(*places, year=1):
    """A good house of these places."""
    return checked((year, places))


def empty(house):
    """The state of a house in which nothing lies and nothing is on its way."""
    return start(house, (0,) * len(house[1]))


def coming_of(many, **ahead):
    """What is on its way to so many places: nothing, but as told by `p` and the place's number."""
    return tuple([ahead.get(f"p{number}", QUIET) for number in range(many)])


def among_mills(*changed, year=1):
    """Five mills whose rivers lead to the sea, so that none hangs on another, some of them changed."""
    places = [mill(name) for name in NAMES]
    for number, place in changed:
        places[number] = place
    return (year, tuple(places))


def forest(many):
    """So many mills, whose names differ by one letter and whose rivers lead one to the next."""
    names = ["m" + "abcdefghijklmnop"[number] for number in range(many)]
    downs = names[1:] + ["sea"]
    return tuple([mill(name, down) for name, down in zip(names, downs)])


def raised(call, *handed):
    """The class and the field of what a call refuses, None where it tells something."""
    try:
        call(*handed)
    except WaterError as refusal:
        return (type(refusal), list(vars(refusal).values()))
    return None


def bent_texts(text, signs):
    """The text with a sign left out, told twice, put in or put for another, at every place."""
    bent = []
    for place in range(len(text)):
        bent.append(text[:place] + text[place + 1:])
        bent.append(text[:place] + text[place] + text[place:])
        bent += [text[:place] + sign + text[place + 1:] for sign in signs if sign != text[place]]
    for place in range(len(text) + 1):
        bent += [text[:place] + sign + text[place:] for sign in signs]
    return bent


def random_rule(random, year, most_pumped):
    """A rule that is good in such a year, for a pump of which so much may go at most (None: no pump)."""
    firsts = [0] + [first for first in range(1, year) if random.randrange(3) == 0]
    rule = []
    for first in firsts:
        stairs = []
        height = random.randrange(4)
        pumped = 0
        for step in range(random.randrange(5)):
            many = random.randrange(1, 5)
            way = "river"
            if most_pumped is not None and pumped + many <= most_pumped and random.randrange(2) == 0:
                way = "pump"
                pumped += many
            stairs.append((height, many, way))
            height += many + random.choice((0, 0, 1, 3))
        rule.append((first, tuple(stairs)))
    return tuple(rule)


def random_place(random, number, names, year):
    """A good place of any kind, its river to any later name or to the sea."""
    name = names[number]
    down = random.choice(names[number + 1:number + 4] + ["sea"])
    delay = random.choice((0, 0, 0, 1, 2, 5))
    kind = random.choice(("basin", "basin", "town", "town", "town", "mill"))
    if kind == "town":
        return town(name, down, delay, random.randrange(7), random.randrange(3))
    if kind == "mill":
        return mill(name, down, delay, random.randrange(7))
    pump = None
    if len(names) > 1 and random.randrange(2) == 0:
        others = [other for other in names if other != name]
        pump = (random.choice(others), random.randrange(1, 6), random.randrange(9))
    rule = random_rule(random, year, pump[2] if pump else None)
    return basin(name, down, delay, random.randrange(15), rule, pump)


def random_house(random):
    """A good house of one to twelve places."""
    year = random.choice((1, 2, 3, 5, 24))
    names = ["m" + letter for letter in "abcdefghijkl"[:random.randrange(1, 13)]]
    return (year, tuple([random_place(random, number, names, year) for number in range(len(names))]))


def random_cubes(random, many, most=9):
    """So many numbers from 0 on, about half of them 0."""
    return tuple([random.choice((0, random.randrange(most + 1))) for number in range(many)])


def random_state(random, house):
    """A state of the house, with water on its way."""
    brims = [place[4] if place[0] == "basin" else 0 for place in house[1]]
    levels = tuple([random.choice((0, brim, random.randrange(brim + 1))) for brim in brims])
    return (levels, tuple([random_cubes(random, 5) for brim in brims]))


def random_run(random):
    """A house, a state of it, a turn's number and floods."""
    house = checked(random_house(random))
    floods = [random_cubes(random, len(house[1])) for number in range(random.choice((0, 1, 3, 9)))]
    return (house, random_state(random, house), random.choice((0, 1, 7, 23, 24, 1000)), floods)


def richer_run(random, house, state, at, floods):
    """A run of the same house from the same turn, with as much or more water everywhere."""
    levels = []
    for place, level in zip(house[1], state[0]):
        highest = place[4] if place[0] == "basin" else 0
        levels.append(random.choice((level, random.randrange(level, highest + 1))))
    coming = tuple([raised_cubes(random, ahead) for ahead in state[1]])
    return (house, (tuple(levels), coming), at, [raised_cubes(random, flood) for flood in floods])


def raised_cubes(random, cubes):
    return tuple([number + random.choice((0, 0, 0, 1, 4)) for number in cubes])


def cubes_between(random, low, high):
    return tuple([random.choice((least, most, random.randint(least, most))) for least, most in zip(low, high)])


def state_between(random, low, high):
    """A state between two states."""
    coming = [cubes_between(random, least, most) for least, most in zip(low[1], high[1])]
    return (cubes_between(random, low[0], high[0]), tuple(coming))


def random_ask(random, house, pages):
    """An ask of a basin or town of the house about a number that is found in these pages or near it; or None."""
    places = [number for number, place in enumerate(house[1]) if place[0] != "mill"]
    if not places:
        return None
    place = random.choice(places)
    what = "took" if house[1][place][0] == "town" else random.choice(("lies", "spilled", "let", "pumped"))
    found = [page[place][PARTS[what]] for page in pages] or [0]
    return (what, place, random.choice(("least", "most")), random.choice(found) + random.choice((-1, 0, 0, 1)))


def answer_by_words(pages, ask):
    """What look tells of these pages, by the words of point 24."""
    what, place, sense, number = ask
    found = [page[place][PARTS[what]] for page in pages]
    for when, cubes in enumerate(found):
        if sense == "least" and cubes < number or sense == "most" and cubes > number:
            return ("broken", when, cubes)
    best = None
    for when, cubes in enumerate(found):
        if best is None or sense == "least" and cubes < found[best] or sense == "most" and cubes > found[best]:
            best = when
    return ("kept", best, None if best is None else found[best])


def above(rows, number):
    """The row itself and all rows from which DOWNs lead to it."""
    found = {number}
    for other in reversed(range(number)):
        if rows[other][0] in found:
            found.add(other)
    return found


def passing(rows, takes):
    """What passes each row, by the words of point 13."""
    told = []
    for number in range(len(rows)):
        there = above(rows, number)
        told.append(sum(rows[other][1] for other in there) - sum(takes[other] for other in there))
    return told


def possible(rows, takes):
    """Whether so much may be taken, by the words of point 12."""
    bounded = all(0 <= take <= row[2] for take, row in zip(takes, rows))
    return bounded and min(passing(rows, takes), default=0) >= 0


def order_of(rows):
    return sorted(range(len(rows)), key=lambda number: (rows[number][3], number))


def dry_by_words(rows, takes, number):
    """The dry place of a row, by the words of point 14."""
    order = order_of(rows)
    behind = order[order.index(number) + 1:]
    place = number
    while True:
        wetted = [other for other in behind if other in above(rows, place) and takes[other] > 0]
        if passing(rows, takes)[place] == 0 and not wetted:
            return place
        place = rows[place][0]


def shares_by_words(rows):
    """The shares, cube by cube: who goes first takes one more as long as that is possible."""
    takes = [0] * len(rows)
    for number in order_of(rows):
        while possible(rows, takes):
            takes[number] += 1
        takes[number] -= 1
    return takes


def opened_by_cubes(stairs, water):
    """What stairs open, cube by cube: the cube that stands above `below` others goes by the step it stands in."""
    ways = {"river": 0, "pump": 0, "stays": 0}
    for below in range(water):
        standing = [way for height, many, way in stairs if height <= below < height + many]
        ways[standing[0] if standing else "stays"] += 1
    return (ways["river"], ways["pump"], ways["stays"])


def reaches_by_words(house):
    """The reaches as lists of places: two towns or mills are together where a river without delay joins them."""
    names = [place[1] for place in house[1]]
    reaches = [[number] for number, place in enumerate(house[1]) if place[0] != "basin"]
    for number, place in enumerate(house[1]):
        if place[2] != "sea" and place[3] == 0:
            joined = [reach for reach in reaches if number in reach or names.index(place[2]) in reach]
            if len(joined) == 2:
                reaches = [reach for reach in reaches if reach not in joined] + [sorted(joined[0] + joined[1])]
    # A basin joins none: it is in no reach, so a river from or to it touches one reach at most.
    return reaches


def rows_by_words(house, reach, came_from_outside):
    """The rows of a reach, WATER being all that comes but from places of the reach itself."""
    names = [place[1] for place in house[1]]
    rows = []
    for number in reach:
        place = house[1][number]
        down = names.index(place[2]) if place[2] != "sea" and place[3] == 0 else None
        need, rank = place[4:] if place[0] == "town" else (0, 0)
        rows.append((reach.index(down) if down in reach else None, came_from_outside[number], need, rank))
    return rows


def came_by_words(house, state, flood, page, reach=()):
    """All that comes to each place where a page tells what leaves, but from places of the reach itself."""
    names = [place[1] for place in house[1]]
    came = [cubes + ahead[0] for cubes, ahead in zip(flood, state[1])]
    for number, place in enumerate(house[1]):
        if place[2] != "sea" and place[3] == 0 and number not in reach:
            came[names.index(place[2])] += page[number][2] + page[number][3]
    return came


def page_by_words(house, state, at, flood):
    """The page of a turn: all places over and over, until nothing changes any more."""
    page = [(0,) * 6] * len(house[1])
    while True:
        came = came_by_words(house, state, flood, page)
        again = [None] * len(page)
        for number, place in enumerate(house[1]):
            if place[0] == "basin":
                stairs = [stairs for first, stairs in place[5] if first <= at % house[0]][-1]
                let, pumped, stays = opened_by_cubes(stairs, state[0][number] + came[number])
                spilled = max(0, stays - place[4])
                again[number] = (came[number], 0, spilled, let, pumped, stays - spilled)
        for reach in reaches_by_words(house):
            rows = rows_by_words(house, reach, came_by_words(house, state, flood, page, reach))
            takes = shares_by_words(rows)
            for number, took, let in zip(reach, takes, passing(rows, takes)):
                again[number] = (took + let, took, 0, let, 0, 0)
        if again == page:
            return tuple(page)
        page = again


def rights_by_words(house, state, at, flood):
    """The rights of a turn, by the page of it."""
    page = page_by_words(house, state, at, flood)
    told = [None] * len(page)
    for reach in reaches_by_words(house):
        rows = rows_by_words(house, reach, came_by_words(house, state, flood, page, reach))
        takes = [page[number][1] for number in reach]
        for row, number in enumerate(reach):
            if takes[row] < rows[row][2]:
                told[number] = reach[dry_by_words(rows, takes, row)]
    return told


def behind_by_words(house, state, page):
    """The state behind a turn that has this page."""
    names = [place[1] for place in house[1]]
    coming = [list(ahead[1:]) + [0] for ahead in state[1]]
    for place, row in zip(house[1], page):
        if place[2] != "sea" and place[3] > 0:
            coming[names.index(place[2])][place[3] - 1] += row[2] + row[3]
        if place[0] == "basin" and place[6] is not None:
            coming[names.index(place[6][0])][place[6][1] - 1] += row[4]
    return (tuple([row[5] for row in page]), tuple([tuple(ahead) for ahead in coming]))


def water_of(state):
    """All that lies and all that is on its way."""
    return sum(state[0]) + sum([sum(ahead) for ahead in state[1]])


def gone_of(house, page):
    """What goes to the sea in a turn that has this page."""
    rows = [row for number, row in enumerate(page) if down_of(house, number) is None]
    return sum([row[2] + row[3] for row in rows])


def random_net(random, many, arcs, mosts, gain):
    """Arcs of a net of so many nodes, from each of them one without a bound; GAINs up to so much either way."""
    told = [(node, random.randint(node + 1, many), None, random.randint(-gain, gain)) for node in range(many)]
    while len(told) < arcs:
        node = random.randrange(many)
        # Many short arcs, so that ways are long and cross one another.
        end = min(many, node + random.choice((1, 2, random.randint(1, many))))
        told.append((node, end, random.choice(mosts), random.randint(-gain, gain)))
    random.shuffle(told)
    return told


def partings(cubes, mosts):
    """All ways to part so many cubes among some, no more to each than its most (None: no bound)."""
    if not mosts:
        return [[]] if cubes == 0 else []
    most = cubes if mosts[0] is None else min(cubes, mosts[0])
    return [[first] + rest for first in range(most + 1) for rest in partings(cubes - first, mosts[1:])]


def all_flows(many, arcs, supplies):
    """All flows of a small net, by the words of point 27, node by node."""
    flows = [{}]
    for node in range(many):
        into = [number for number, arc in enumerate(arcs) if arc[1] == node]
        outof = [number for number, arc in enumerate(arcs) if arc[0] == node]
        longer = []
        for flow in flows:
            there = supplies[node] + sum([flow[number] for number in into])
            for parts in partings(there, [arcs[number][2] for number in outof]):
                longer.append({**flow, **dict(zip(outof, parts))})
        flows = longer
    return [[flow[number] for number in range(len(arcs))] for flow in flows]


def bounds_of(place):
    """How much can at most be taken, spilled, let, pumped and kept at a place in a plan (None: no bound)."""
    need = place[4] if place[0] == "town" else 0
    brim = place[4] if place[0] == "basin" else 0
    pumped = place[6][2] if place[0] == "basin" and place[6] is not None else 0
    return [need, 0, None, pumped, brim]


def planned_turns(house, state, flood):
    """All pages that a turn of a plan can have, by the words of point 30, place by place."""
    pages = [()]
    for number, place in enumerate(house[1]):
        longer = []
        for rows in pages:
            unknown = ((0,) * 6,) * (len(house[1]) - number)
            came = came_by_words(house, state, flood, rows + unknown)[number]
            for parts in partings(state[0][number] + came, bounds_of(place)):
                longer.append(rows + ((came,) + tuple(parts),))
        pages = longer
    return pages


def planned_pages(house, state, floods):
    """All lists of pages that a plan can have, one behind the other."""
    if not floods:
        yield []
        return
    for page in planned_turns(house, state, floods[0]):
        for later in planned_pages(house, behind_by_words(house, state, page), floods[1:]):
            yield [page] + later


def is_planned(house, state, floods, pages):
    """Whether pages are such as a plan can have, and come out as point 17 tells."""
    if len(pages) != len(floods):
        return False
    for flood, page in zip(floods, pages):
        if [row[0] for row in page] != came_by_words(house, state, flood, page):
            return False
        for place, lay, row in zip(house[1], state[0], page):
            if lay + row[0] != sum(row[1:]) or min(row) < 0:
                return False
            if any(bound is not None and part > bound for part, bound in zip(row[1:], bounds_of(place))):
                return False
        state = behind_by_words(house, state, page)
    return True


def earned_of(house, pages, pays, left):
    """What pages earn, by the words of point 31."""
    told = 0
    for page, pay in zip(pages, pays):
        for place, row, each in zip(house[1], page, pay):
            earning = {"town": row[1], "mill": min(row[3], place[4]), "basin": -row[4]}
            told += earning[place[0]] * each
    for place, row, each in zip(house[1], pages[-1] if pages else (), left):
        told += row[5] * each if place[0] == "basin" else 0
    return told


def random_plan(random, house=None, turns=None):
    """A house, a state of it, and floods, pays and LEFT, turns times places being no more than 60."""
    house = house or checked(random_house(random))
    many = len(house[1])
    turns = turns or random.randint(1, 60 // many)
    floods = [random_cubes(random, many) for number in range(turns)]
    most = random.choice((1, 5, 1000))
    pays = [random_cubes(random, many, most) for number in range(turns)]
    return (house, random_state(random, house), floods, pays, random_cubes(random, many, most))


def with_other_rules(random, house):
    """The same house with other rules of opening, and other ranks."""
    places = []
    for place in house[1]:
        if place[0] == "basin":
            rule = random_rule(random, house[0], place[6][2] if place[6] else None)
            place = place[:5] + (rule, place[6])
        elif place[0] == "town":
            place = place[:5] + (random.randrange(4),)
        places.append(place)
    return checked((house[0], tuple(places)))


def one_more(row, place):
    """A row of numbers with one more at one place, of the same kind."""
    return row[:place] + type(row)([row[place] + 1]) + row[place + 1:]
