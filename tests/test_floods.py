"""What is under what, and asks of all floods between two rows [2, 3, 23, 24]."""

import copy
import random
import unittest

from builders import (
    GREAT, PARTS, QUIET, SHUT, answer_by_words, basin, behind_by_words, cubes_between, empty, house_of, line, mill,
    page_by_words, raised, random_ask, random_house, random_run, random_state, richer_run, state_between, town,
)
from sluiceway.errors import NoAsk, NoBounds
from sluiceway.floods import look, rows_under, under
from sluiceway.turns import run, start


def put(numbers, place, number):
    """A tuple with one of its numbers changed for another."""
    return numbers[:place] + (number,) + numbers[place + 1:]


class Told(unittest.TestCase):
    def assert_told(self, call, *handed, told):
        """A call tells this, of the same kinds, and what is handed in stays."""
        before = repr(handed)
        with self.subTest(call=call.__name__, handed=handed):
            # The words of things tell tuples from lists, and numbers from truths.
            self.assertEqual(repr(call(*handed)), repr(told))
            self.assertEqual(repr(handed), before)

    def assert_refused(self, refusal, call, *handed):
        before = repr(handed)
        with self.subTest(call=call.__name__, handed=handed):
            self.assertEqual(raised(call, *handed), (refusal, []))
            self.assertEqual(repr(handed), before)


class Under(Told):
    STATE = ((3, 0, 9), ((1, 2, 3, 4, 5), (0, 0, 0, 0, 0), (9, 0, 7, 0, GREAT)))

    def changed(self):
        """For each number of the state, that state with the number one more."""
        levels, coming = self.STATE
        states = [(put(levels, place, level + 1), coming) for place, level in enumerate(levels)]
        for place, ahead in enumerate(coming):
            for when, cubes in enumerate(ahead):
                states.append((levels, put(coming, place, put(ahead, when, cubes + 1))))
        return states

    def test_alike(self):
        self.assert_told(under, self.STATE, copy.deepcopy(self.STATE), told=True)
        for many in (1, 12):
            state = ((0,) * many, (QUIET,) * many)
            self.assert_told(under, state, state, told=True)

    def test_unlike_at_one_number(self):
        changed = self.changed()
        self.assertEqual(len(changed), 18)
        for state in changed:
            self.assert_told(under, self.STATE, state, told=True)
            self.assert_told(under, state, self.STATE, told=False)

    def test_neither_under_the_other(self):
        changed = self.changed()
        for number in range(len(changed)):
            self.assert_told(under, changed[number], changed[number - 1], told=False)

    def test_more_at_all_numbers(self):
        more = (tuple([level + 5 for level in self.STATE[0]]), tuple([(GREAT + 1,) * 5 for place in range(3)]))
        self.assert_told(under, self.STATE, more, told=True)
        self.assert_told(under, more, self.STATE, told=False)

    def test_great_numbers(self):
        self.assert_told(under, ((GREAT,), (QUIET,)), ((GREAT + 1,), (QUIET,)), told=True)
        self.assert_told(under, ((GREAT,), (QUIET,)), ((GREAT - 1,), ((GREAT,) * 5,)), told=False)

    def test_by_chance(self):
        chance = random.Random(231)
        for number in range(200):
            house = random_house(chance)
            first, second = random_state(chance, house), random_state(chance, house)
            numbers = [[*state[0], *[cubes for ahead in state[1] for cubes in ahead]] for state in (first, second)]
            told = not [1 for least, most in zip(*numbers) if least > most]
            self.assert_told(under, first, second, told=told)
            self.assert_told(under, first, richer_run(chance, house, first, 0, [])[1], told=True)


class RowsUnder(Told):
    ROWS = [(1, 2, 3), (0, 0, 0), (GREAT, 5, 0), (4, 4, 4)]

    def test_no_floods(self):
        self.assert_told(rows_under, [], [], told=True)

    def test_unlike_lengths(self):
        for many in range(4):
            self.assert_told(rows_under, self.ROWS[:many], self.ROWS, told=False)
            self.assert_told(rows_under, self.ROWS, self.ROWS[:many], told=False)
        self.assert_told(rows_under, [], [(0, 0, 0)], told=False)
        self.assert_told(rows_under, [(0, 0, 0)], [], told=False)

    def test_alike(self):
        for many in range(1, 5):
            self.assert_told(rows_under, self.ROWS[:many], list(self.ROWS[:many]), told=True)

    def test_unlike_at_one_number(self):
        for row in range(4):
            for place in range(3):
                more = list(self.ROWS)
                more[row] = put(more[row], place, more[row][place] + 1)
                self.assert_told(rows_under, self.ROWS, more, told=True)
                self.assert_told(rows_under, more, self.ROWS, told=False)
                other = list(self.ROWS)
                other[row - 1] = put(other[row - 1], place, other[row - 1][place] + 7)
                self.assert_told(rows_under, more, other, told=False)

    def test_a_number_that_the_other_lacks_is_under_none(self):
        self.assert_told(rows_under, [(1, 2)], [(1, 2, 3)], told=False)
        self.assert_told(rows_under, [(1, 2, 3)], [(1, 2)], told=False)

    def test_each_flood_is_held_to_its_own(self):
        self.assert_told(rows_under, [(1,), (2,)], [(2,), (1,)], told=False)
        self.assert_told(rows_under, [(1, 2)], [(2, 1)], told=False)
        self.assert_told(rows_under, [(1, 1), (2, 2)], [(1, 1), (2, 2)], told=True)


class Looks(Told):
    # A basin that keeps 2, lets the next 3, pumps the next 4 and has room for 10, a town with a need of 5, a mill.
    HOUSE = house_of(
        basin("a", "b", 0, 10, ((0, ((2, 3, "river"), (5, 4, "pump"))),), ("c", 1, 4)), town("b", "c", 0, 5), mill("c"),
        basin("d", brim=6, rule=SHUT),
    )
    FLOODS = [(1, 0, 0, 0), (5, 0, 0, 2), (20, 2, 0, 9), (0, 1, 0, 0)]

    def assert_looked(self, ask, told, floods=None, at=0):
        """The answer of the run that is looked through, whatever lies on the other side."""
        floods = self.FLOODS if floods is None else floods
        state = empty(self.HOUSE)
        more = [tuple([cubes + 3 for cubes in flood]) for flood in floods]
        less = [tuple([max(0, cubes - 1) for cubes in flood]) for flood in floods]
        full = ((10, 0, 0, 6), ((9,) * 5,) * 4)
        self.assert_told(look, self.HOUSE, state, state, at, floods, floods, ask, told=told)
        if ask[2] == "least":
            self.assert_told(look, self.HOUSE, state, full, at, floods, more, ask, told=told)
        else:
            self.assert_told(look, self.HOUSE, state, state, at, less, floods, ask, told=told)

    def test_the_pages_are_as_told(self):
        pages = run(self.HOUSE, empty(self.HOUSE), 0, self.FLOODS)[0]
        self.assertEqual([page[0][2:] for page in pages], [(0, 0, 0, 1), (0, 3, 1, 2), (5, 3, 4, 10), (0, 3, 4, 3)])
        self.assertEqual([page[1][1] for page in pages], [0, 3, 5, 4])
        self.assertEqual([page[3][2:] for page in pages], [(0, 0, 0, 0), (0, 0, 0, 2), (5, 0, 0, 6), (0, 0, 0, 6)])

    def test_lies(self):
        for number, told in ((0, ("kept", 0, 1)), (1, ("kept", 0, 1)), (2, ("broken", 0, 1)), (99, ("broken", 0, 1))):
            self.assert_looked(("lies", 0, "least", number), told)
        for number, told in ((0, 0), (1, 1), (2, 2), (9, 2)):
            answer = ("broken", told, (1, 2, 10)[told])
            self.assert_looked(("lies", 0, "most", number), answer)
        for number in (10, 11, GREAT):
            self.assert_looked(("lies", 0, "most", number), ("kept", 2, 10))

    def test_spilled(self):
        self.assert_looked(("spilled", 0, "least", 0), ("kept", 0, 0))
        self.assert_looked(("spilled", 0, "least", 1), ("broken", 0, 0))
        self.assert_looked(("spilled", 0, "most", 4), ("broken", 2, 5))
        self.assert_looked(("spilled", 0, "most", 5), ("kept", 2, 5))

    def test_let(self):
        self.assert_looked(("let", 0, "least", 0), ("kept", 0, 0))
        self.assert_looked(("let", 0, "least", 1), ("broken", 0, 0))
        self.assert_looked(("let", 0, "most", 2), ("broken", 1, 3))
        self.assert_looked(("let", 0, "most", 3), ("kept", 1, 3))

    def test_pumped(self):
        self.assert_looked(("pumped", 0, "least", 0), ("kept", 0, 0))
        self.assert_looked(("pumped", 0, "least", 4), ("broken", 0, 0))
        self.assert_looked(("pumped", 0, "most", 0), ("broken", 1, 1))
        self.assert_looked(("pumped", 0, "most", 3), ("broken", 2, 4))
        self.assert_looked(("pumped", 0, "most", 4), ("kept", 2, 4))

    def test_took(self):
        self.assert_looked(("took", 1, "least", 0), ("kept", 0, 0))
        self.assert_looked(("took", 1, "least", 1), ("broken", 0, 0))
        self.assert_looked(("took", 1, "most", 4), ("broken", 2, 5))
        self.assert_looked(("took", 1, "most", 5), ("kept", 2, 5))

    def test_broken_at_the_first_a_middle_and_the_last_turn(self):
        floods = [(0, 5, 0, 0), (0, 4, 0, 0), (0, 2, 0, 0), (0, 3, 0, 0), (0, 1, 0, 0)]
        for number, when, found in ((6, 0, 5), (5, 1, 4), (4, 2, 2), (3, 2, 2), (2, 4, 1)):
            self.assert_looked(("took", 1, "least", number), ("broken", when, found), floods)
        self.assert_looked(("took", 1, "least", 1), ("kept", 4, 1), floods)
        floods.reverse()
        for number, when, found in ((0, 0, 1), (1, 1, 3), (2, 1, 3), (3, 3, 4), (4, 4, 5)):
            self.assert_looked(("took", 1, "most", number), ("broken", when, found), floods)
        self.assert_looked(("took", 1, "most", 5), ("kept", 4, 5), floods)

    def test_the_first_of_several_turns_is_told(self):
        floods = [(0, 3, 0, 0), (0, 2, 0, 0), (0, 4, 0, 0), (0, 2, 0, 0), (0, 4, 0, 0), (0, 3, 0, 0)]
        self.assert_looked(("took", 1, "least", 2), ("kept", 1, 2), floods)
        self.assert_looked(("took", 1, "least", -5), ("kept", 1, 2), floods)
        self.assert_looked(("took", 1, "most", 4), ("kept", 2, 4), floods)
        self.assert_looked(("took", 1, "least", 3), ("broken", 1, 2), floods)
        self.assert_looked(("took", 1, "most", 3), ("broken", 2, 4), floods)

    def test_numbers_below_0(self):
        self.assert_looked(("lies", 3, "least", -1), ("kept", 0, 0))
        self.assert_looked(("lies", 3, "most", -1), ("broken", 0, 0))

    def test_no_turns(self):
        state = empty(self.HOUSE)
        full = ((10, 0, 0, 6), ((9,) * 5,) * 4)
        for what, place in (("lies", 0), ("spilled", 3), ("let", 0), ("pumped", 3), ("took", 1)):
            for sense in ("least", "most"):
                for number in (-1, 0, 5, GREAT):
                    ask = (what, place, sense, number)
                    self.assert_told(look, self.HOUSE, state, full, 7, [], [], ask, told=("kept", None, None))

    def test_a_basin_without_a_pump_and_one_that_never_lets(self):
        self.assert_looked(("pumped", 3, "most", 0), ("kept", 0, 0))
        self.assert_looked(("let", 3, "least", 0), ("kept", 0, 0))
        self.assert_looked(("lies", 3, "most", 5), ("broken", 2, 6))

    def test_one_turn(self):
        for number, word in ((1, "kept"), (2, "kept"), (3, "broken")):
            self.assert_looked(("lies", 0, "least", number), (word, 0, 2), [(6, 0, 0, 0)])
        for number, word in ((1, "broken"), (2, "kept"), (3, "kept")):
            self.assert_looked(("lies", 0, "most", number), (word, 0, 2), [(6, 0, 0, 0)])

    def test_the_lower_and_the_higher_state_and_row(self):
        low, high = start(self.HOUSE, (1, 0, 0, 2)), ((4, 0, 0, 3), (QUIET, (2, 0, 0, 0, 0), QUIET, (0, 1, 0, 0, 0)))
        lows, highs = [(0, 0, 0, 0), (0, 1, 0, 1)], [(1, 1, 0, 0), (0, 2, 0, 2)]
        for ask, told in (
            (("lies", 0, "least", 1), ("kept", 0, 1)), (("lies", 0, "most", 2), ("kept", 0, 2)),
            (("let", 0, "least", 1), ("broken", 0, 0)), (("let", 0, "most", 3), ("kept", 0, 3)),
            (("took", 1, "least", 1), ("broken", 0, 0)), (("took", 1, "most", 5), ("kept", 0, 5)),
            (("lies", 3, "least", 2), ("kept", 0, 2)), (("lies", 3, "most", 5), ("broken", 1, 6)),
        ):
            self.assert_told(look, self.HOUSE, low, high, 0, lows, highs, ask, told=told)

    def test_the_first_turn_has_the_number_at(self):
        rule = ((0, ()), (1, ((0, 1, "river"),)), (2, ((0, 2, "river"),)))
        house = house_of(basin("a", brim=99, rule=rule), year=3)
        state = start(house, (50,))
        floods = [(0,)] * 3
        for at in list(range(7)) + [3 * 10 ** 30 + 1]:
            ask = ("let", 0, "most", 2)
            self.assert_told(look, house, state, state, at, floods, floods, ask, told=("kept", (2 - at) % 3, 2))
            ask = ("let", 0, "least", 1)
            self.assert_told(look, house, state, state, at, floods, floods, ask, told=("broken", -at % 3, 0))

    def test_forty_figures(self):
        house = house_of(basin("a", brim=GREAT, rule=SHUT))
        low, high = start(house, (0,)), start(house, (GREAT,))
        for ask, told in (
            (("lies", 0, "least", GREAT - 5), ("kept", 0, GREAT - 5)),
            (("lies", 0, "least", GREAT), ("broken", 0, GREAT - 5)),
            (("spilled", 0, "most", GREAT), ("kept", 0, GREAT)),
            (("spilled", 0, "most", GREAT - 1), ("broken", 0, GREAT)),
        ):
            self.assert_told(look, house, low, high, 0, [(GREAT - 5,)], [(GREAT,)], ask, told=told)


class NoAsks(Told):
    # A basin at place 0, a town at 1, a basin at 2, a mill at 3, a basin at 4.
    HOUSE = house_of(*line(), year=4)
    ROWS = [(1, 1, 1, 1, 1)] * 3
    GOOD = (("lies", 0), ("spilled", 2), ("let", 4), ("pumped", 0), ("took", 1))

    def assert_no_ask(self, ask):
        """Refused so whether states and rows are good or not, and with no turns too."""
        state = empty(self.HOUSE)
        full = start(self.HOUSE, (9, 0, 9, 0, 9))
        for rows in ([], self.ROWS):
            self.assert_refused(NoAsk, look, self.HOUSE, state, full, 0, rows, rows, ask)
            self.assert_refused(NoAsk, look, self.HOUSE, full, state, 0, rows, rows, ask)
            self.assert_refused(NoAsk, look, self.HOUSE, state, full, 0, rows + self.ROWS, rows, ask)

    def test_good_ones_are_not_refused(self):
        state = empty(self.HOUSE)
        for what, place in self.GOOD:
            for sense in ("least", "most"):
                ask = (what, place, sense, 1)
                self.assertIsNone(raised(look, self.HOUSE, state, state, 0, self.ROWS, self.ROWS, ask))

    def test_another_what(self):
        for what in ("", "came", "Lies", "lie", "lies ", "taken", "gone", "least", "basin", "spill", "pump", "tookk"):
            for place in range(5):
                self.assert_no_ask((what, place, "least", 1))

    def test_another_sense(self):
        for sense in ("", "Least", "MOST", "least ", "more", "less", "max", "lies"):
            for what, place in self.GOOD:
                self.assert_no_ask((what, place, sense, 1))

    def test_a_number_that_is_no_places(self):
        for place in (-1, -2, -3, -4, -5, -6, 5, 6, 12, GREAT, -GREAT):
            for what in PARTS:
                for sense in ("least", "most"):
                    self.assert_no_ask((what, place, sense, 1))

    def test_places_of_other_kinds(self):
        for sense in ("least", "most"):
            for place in (1, 3):
                for what in ("lies", "spilled", "let", "pumped"):
                    self.assert_no_ask((what, place, sense, 1))
            for place in (0, 2, 3, 4):
                self.assert_no_ask(("took", place, sense, 1))

    def test_in_houses_of_other_sizes(self):
        for many in range(1, 13):
            house = house_of(*[basin("m" + "abcdefghijkl"[number], rule=SHUT) for number in range(many)])
            state = empty(house)
            for place in range(many):
                ask = ("lies", place, "most", 1)
                self.assert_told(look, house, state, state, 0, [], [], ask, told=("kept", None, None))
            for place in (-1, many, -many):
                ask = ("lies", place, "most", 1)
                self.assert_refused(NoAsk, look, house, state, state, 0, [], [], ask)


class NoBoundsTold(Told):
    HOUSE = house_of(*line(), year=4)
    STATE = ((5, 0, 5, 0, 5), ((1, 2, 3, 4, 5), QUIET, QUIET, (0, 1, 0, 1, 0), QUIET))
    ROWS = [(1, 1, 1, 1, 1), (0, 2, 0, 2, 0)]

    def assert_no_bounds(self, low, high, lows, highs):
        for ask in (("lies", 0, "least", 1), ("lies", 0, "most", 1), ("took", 1, "least", 0), ("took", 1, "most", 9)):
            for at in (0, 5):
                self.assert_refused(NoBounds, look, self.HOUSE, low, high, at, lows, highs, ask)

    def test_states(self):
        levels, coming = self.STATE
        lower = []
        for place in (0, 2, 4):
            lower.append((put(levels, place, 4), coming))
        for place, ahead in enumerate(coming):
            for when, cubes in enumerate(ahead):
                if cubes > 0:
                    lower.append((levels, put(coming, place, put(ahead, when, cubes - 1))))
        self.assertEqual(len(lower), 10)
        for state in lower:
            for rows in ([], self.ROWS):
                self.assert_no_bounds(self.STATE, state, rows, rows)
                ask = ("lies", 0, "most", 99)
                self.assertIsNone(raised(look, self.HOUSE, state, self.STATE, 0, rows, rows, ask))

    def test_rows_of_unlike_lengths(self):
        for lows, highs in (([], self.ROWS), (self.ROWS, []), (self.ROWS[:1], self.ROWS), (self.ROWS, self.ROWS[:1])):
            self.assert_no_bounds(self.STATE, self.STATE, lows, highs)

    def test_rows_unlike_at_one_number(self):
        for row in range(2):
            for place in range(5):
                if self.ROWS[row][place] > 0:
                    less = list(self.ROWS)
                    less[row] = put(less[row], place, less[row][place] - 1)
                    self.assert_no_bounds(self.STATE, self.STATE, self.ROWS, less)
                    ask = ("lies", 0, "most", 99)
                    self.assertIsNone(raised(look, self.HOUSE, self.STATE, self.STATE, 0, less, self.ROWS, ask))


class Between(Told):
    def bounds(self, chance):
        """A house, two states and two rows of floods, one under the other, an AT, and the pages of both ends."""
        house, low, at, lows = random_run(chance)
        house, high, at, highs = richer_run(chance, house, low, at, lows)
        return (house, low, high, at, lows, highs)

    def test_by_words(self):
        chance = random.Random(241)
        answers = {"kept": 0, "broken": 0}
        for number in range(300):
            house, low, high, at, lows, highs = self.bounds(chance)
            for turns in range(6):
                ask = random_ask(chance, house, run(house, low, at, lows)[0] + run(house, high, at, highs)[0])
                if ask is not None:
                    state, floods = (low, lows) if ask[2] == "least" else (high, highs)
                    told = answer_by_words(self.pages_by_words(house, state, at, floods), ask)
                    self.assert_told(look, house, low, high, at, lows, highs, ask, told=told)
                    answers[told[0]] += 1
        self.assertGreater(min(answers.values()), 200)

    def pages_by_words(self, house, state, at, floods):
        pages = []
        for when, flood in enumerate(floods):
            pages.append(page_by_words(house, state, at + when, flood))
            state = behind_by_words(house, state, pages[-1])
        return pages

    def test_what_is_told_holds_of_floods_between(self):
        chance = random.Random(242)
        for number in range(300):
            house, low, high, at, lows, highs = self.bounds(chance)
            ask = random_ask(chance, house, run(house, low, at, lows)[0] + run(house, high, at, highs)[0])
            if ask is None:
                continue
            what, place, sense, asked = ask
            word, when, found = look(house, low, high, at, lows, highs, ask)
            ends = run(house, *((low, at, lows) if sense == "least" else (high, at, highs)))[0]
            with self.subTest(house=house, low=low, high=high, at=at, lows=lows, highs=highs, ask=ask):
                if word == "broken":
                    self.assertEqual(ends[when][place][PARTS[what]], found)
                    self.assertTrue(found < asked if sense == "least" else found > asked)
                    continue
                for between in range(4):
                    floods = [cubes_between(chance, *pair) for pair in zip(lows, highs)]
                    pages = run(house, state_between(chance, low, high), at, floods)[0]
                    for page in pages:
                        cubes = page[place][PARTS[what]]
                        self.assertTrue(cubes >= found >= asked if sense == "least" else cubes <= found <= asked)

    def test_what_is_handed_in_may_change_later(self):
        house = house_of(*line(), year=4)
        rows = [(20, 20, 20, 20, 20), (1, 1, 1, 1, 1)]
        told = look(house, empty(house), empty(house), 0, rows, rows, ("lies", 0, "most", 99))
        kept = copy.deepcopy(told)
        rows.clear()
        self.assertEqual(told, kept)


if __name__ == "__main__":
    unittest.main()
