"""The desk: a house is kept, and texts about it are answered with texts."""

from sluiceway.books import books_of_pages
from sluiceway.errors import NoHouse
from sluiceway.floods import look
from sluiceway.houses import PLACES, number_of
from sluiceway.lines import check_counts, read_line, shown_numbers, shown_page, shown_rights
from sluiceway.plans import plan
from sluiceway.texts import read_house, shown_house
from sluiceway.turns import rights, start, turn

HOUSE_AHEAD = "house\n"
DONE = "ok"


class Desk:
    """A house, its state, the turn's number, and what came and was done since the books began."""

    def __init__(self):
        self.house = None
        self.state = None
        self.at = 0
        self.begin_books()

    def begin_books(self):
        """Begin the books at the present state."""
        self.state_at_begin = self.state
        self.state_ahead = None
        self.floods = []
        self.pages = []

    def say(self, text):
        """Tell the answer to a text."""
        if text.startswith(HOUSE_AHEAD):
            return self.say_house(text[len(HOUSE_AHEAD):])
        word, parts = read_line(text)
        if self.house is None:
            raise NoHouse("no house is kept")
        check_counts(self.house, word, parts)
        return self.answer(word, parts)

    def answer(self, word, parts):
        """Tell the answer to a row that is read and counted."""
        if word == "show":
            return shown_house(self.house)
        if word == "fill":
            return self.say_fill(parts)
        if word == "turn":
            return self.say_turn(parts)
        if word == "books":
            return self.say_books()
        if word == "rights":
            return self.say_rights()
        if word == "look":
            return self.say_look(parts)
        return self.say_plan(parts)

    def say_house(self, text):
        """Keep the house of a text, with its basins empty."""
        house = read_house(text)
        self.house = house
        self.state = start(house, (0,) * len(house[PLACES]))
        self.at = 0
        self.begin_books()
        return DONE

    def say_fill(self, parts):
        """Set the level of a place."""
        name, level = parts
        place = number_of(self.house, name)
        levels, coming = self.state
        filled = start(self.house, levels[:place] + (level,) + levels[place + 1:])
        self.state = (filled[0], coming)
        self.begin_books()
        return DONE

    def say_turn(self, parts):
        """Run a turn."""
        flood = parts[0]
        page, behind = turn(self.house, self.state, self.at, flood)
        self.state_ahead = self.state
        self.state = behind
        self.at += 1
        self.floods.append(flood)
        self.pages.append(page)
        return shown_page(page)

    def say_books(self):
        """Tell the books since they began."""
        told = books_of_pages(self.house, self.state_at_begin, self.floods, self.pages, self.state)
        return shown_numbers(told, " ")

    def say_rights(self):
        """Tell the rights of the last turn since the books began."""
        if len(self.floods) == 0:
            return shown_rights(self.house, [])
        return shown_rights(self.house, rights(self.house, self.state_ahead, self.at - 1, self.floods[-1]))

    def say_look(self, parts):
        """Tell what is looked up about the turns to come."""
        what, name, sense, number, lows, highs = parts
        ask = (what, number_of(self.house, name), sense, number)
        word, when, found = look(self.house, self.state, self.state, self.at, lows, highs, ask)
        return f"{word} {when} {found}"

    def say_plan(self, parts):
        """Tell what a plan earns from the present state on, and the prices of its first turn."""
        floods, pays, left = parts
        most, pages, prices = plan(self.house, self.state, floods, pays, left)
        first_prices = shown_numbers(prices[0], ",")
        return f"{most} {first_prices}"
