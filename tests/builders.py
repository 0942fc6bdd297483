"""Places and houses for the tests: good ones, of which a test changes just what it is about."""

PLAIN = ((0, ((10, 5, "river"),)),)
GREAT = 10 ** 40 - 1
NAMES = ("alder", "birch", "cedar", "dill", "elm")
DOWNS = ("birch", "cedar", "elm", "elm", "sea")


def basin(name, down="sea", delay=0, brim=100, rule=PLAIN, pump=None):
    return ("basin", name, down, delay, brim, rule, pump)


def town(name, down="sea", delay=0, need=3, rank=1):
    return ("town", name, down, delay, need, rank)


def mill(name, down="sea", delay=0, most=7):
    return ("mill", name, down, delay, most)


def line():
    """Five good places of all three kinds, rivers and pumps leading this way and that."""
    return [
        basin("alder", "birch", 1),
        town("birch", "cedar"),
        basin("cedar", "elm", 2, pump=("alder", 1, 4), rule=((0, ((5, 4, "pump"),)), (2, ()))),
        mill("dill", "elm"),
        basin("elm", "sea", 0, pump=("birch", 5, 0)),
    ]


def house_with(number, place, year=4):
    """The line with one of its places changed for another."""
    places = line()
    places[number] = place
    return (year, tuple(places))


def among_mills(*changed, year=1):
    """Five mills whose rivers lead to the sea, so that none hangs on another, some of them changed."""
    places = [mill(name) for name in NAMES]
    for number, place in changed:
        places[number] = place
    return (year, tuple(places))


def forest(many):
    """So many mills, whose names differ by one letter and whose rivers lead one to the next."""
    names = ["m" + "abcdefghijklmnop"[number] for number in range(many)]
    downs = names[1:] + ["sea"]
    return tuple([mill(name, down) for name, down in zip(names, downs)])
