"""Lines: the rows that a desk is told, read, and what it answers, written."""

from sluiceway.errors import NoRow
from sluiceway.houses import NAME, PLACES
from sluiceway.texts import is_number

# What the words of a row write that stand behind its first one.
FORMS = {
    "show": (),
    "fill": ("word", "number"),
    "turn": ("cubes",),
    "books": (),
    "rights": (),
    "look": ("word", "word", "word", "number", "floods", "floods"),
    "plan": ("floods", "floods", "cubes"),
}


def read_line(text):
    """Read a row: tell its first word, and the list of what the others write."""
    words = text.split(" ")
    if words[0] not in FORMS:
        raise NoRow("the first word is unknown")
    form = FORMS[words[0]]
    if len(words) != 1 + len(form):
        raise NoRow("there are too few words, or too many")
    return (words[0], [read_part(word, kind) for word, kind in zip(words[1:], form)])


def read_part(word, kind):
    """Read a word that writes a part of this kind."""
    if kind == "number":
        return read_number(word)
    if kind == "cubes":
        return read_cubes(word)
    if kind == "floods":
        return [read_cubes(cubes) for cubes in word.split("/")]
    return word


def read_cubes(word):
    """Read numbers parted by commas; how many a house asks is not asked here."""
    return tuple([read_number(number) for number in word.split(",")])


def read_number(word):
    """Read a number."""
    if not is_number(word):
        raise NoRow("a number is not written so")
    return int(word)


def check_counts(house, word, parts):
    """Refuse the parts of a row that have not one number for each place, or a plan of unlike turns."""
    for kind, part in zip(FORMS[word], parts):
        if kind == "cubes":
            check_cubes(house, [part])
        elif kind == "floods":
            check_cubes(house, part)
    if word == "plan" and len(parts[0]) != len(parts[1]):
        raise NoRow("there are not as many pays as floods")


def check_cubes(house, rows):
    """Refuse rows of cubes of which one has not one number for each place."""
    for cubes in rows:
        if len(cubes) != len(house[PLACES]):
            raise NoRow("there is not one number for each place")


def shown_numbers(numbers, between):
    """Tell the text of numbers, parted so."""
    return between.join([str(number) for number in numbers])


def shown_page(page):
    """Tell the text of a page."""
    return " | ".join([shown_numbers(row, " ") for row in page])


def shown_rights(house, found):
    """Tell the text of rights: each town that lacks water, by its dry place."""
    names = [place[NAME] for place in house[PLACES]]
    told = []
    for name, dry_place in zip(names, found):
        if dry_place is not None:
            dry_name = names[dry_place]
            told.append(f"{name} by {dry_name}")
    return "none" if len(told) == 0 else ", ".join(told)
