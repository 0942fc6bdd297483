"""Books: where the water of a run came from and went, and what towns took and lacked."""

from sluiceway.houses import DOWN, KIND, NEED, PLACES, SEA
from sluiceway.turns import LET, SPILLED, TOOK, run


def water(state):
    """Tell how much lies and is on its way."""
    levels, coming = state
    return sum(levels) + sum([sum(ahead) for ahead in coming])


def gone(house, page):
    """Tell how much went to the sea in the turn of a page."""
    return sum([row[SPILLED] + row[LET] for place, row in zip(house[PLACES], page) if place[DOWN] == SEA])


def books(house, state, at, floods):
    """Tell what lay ahead of a run, what came, what towns took, what is gone, and what lies behind it."""
    pages, behind = run(house, state, at, floods)
    return books_of_pages(house, state, floods, pages, behind)


def books_of_pages(house, state, floods, pages, behind):
    """Tell the books of a run that has been run already."""
    came = sum([sum(flood) for flood in floods])
    took = sum([sum([row[TOOK] for row in page]) for page in pages])
    return (water(state), came, took, sum([gone(house, page) for page in pages]), water(behind))


def accounts(house, pages):
    """Tell for each town what it took, and what it needs, in all these pages."""
    told = []
    for number, place in enumerate(house[PLACES]):
        if place[KIND] == "town":
            took = sum([page[number][TOOK] for page in pages])
            told.append((number, took, place[NEED] * len(pages)))
    return told


def shorts(house, pages):
    """Tell in which turns which towns took less than their need, and by how much."""
    told = []
    for when, page in enumerate(pages):
        for number, place in enumerate(house[PLACES]):
            if place[KIND] == "town" and page[number][TOOK] < place[NEED]:
                told.append((when, number, place[NEED] - page[number][TOOK]))
    return told
