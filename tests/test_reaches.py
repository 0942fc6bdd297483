"""Reaches: shares, what passes, and dry places [2, 11 to 14]."""

import copy
import itertools
import random
import unittest

from builders import GREAT, dry_by_words, order_of, passing, possible
from sluiceway.reaches import dry, passed, shares


def all_shares(rows):
    """The shares as the greatest of all that is possible, by who goes first."""
    order = order_of(rows)
    every = [takes for takes in itertools.product(*[range(row[2] + 1) for row in rows]) if possible(rows, takes)]
    return list(max(every, key=lambda takes: [takes[number] for number in order]))


def line_of(*parts):
    """Rows in one line, each a tuple (WATER, NEED, RANK)."""
    last = len(parts) - 1
    return [(number + 1 if number < last else None,) + part for number, part in enumerate(parts)]


def fan_of(*parts):
    """Many rows into the last one, each a tuple (WATER, NEED, RANK)."""
    last = len(parts) - 1
    return [(last if number < last else None,) + part for number, part in enumerate(parts)]


def random_rows(chance, many, most, ranks):
    rows = []
    for number in range(many):
        down = chance.choice([None] + list(range(number + 1, many)) * 2)
        if chance.randrange(3) and number + 1 < many:
            down = number + 1
        water = chance.choice((0, chance.randrange(most + 1)))
        need = chance.choice((0, chance.randrange(most + 1), chance.randrange(most + 1)))
        rows.append((down, water, need, chance.randrange(ranks)))
    return rows


class Reaches(unittest.TestCase):
    def assert_told(self, rows, takes, dries):
        """The shares and the dry places are these, and what passes is by the words."""
        before = copy.deepcopy(rows)
        with self.subTest(rows=rows):
            self.assertEqual(shares(rows), takes)
            self.assertEqual(passed(rows, takes), passing(rows, takes))
            self.assertEqual(dry(rows), dries)
            self.assertEqual(rows, before)

    def assert_by_words(self, rows):
        """The shares, what passes and the dry places are as points 12 to 14 say, whatever the numbers."""
        takes = shares(rows)
        self.assertEqual(len(takes), len(rows))
        self.assertTrue(possible(rows, takes))
        so_far = [0] * len(rows)
        for number in order_of(rows):
            so_far[number] = takes[number]
            self.assertTrue(possible(rows, so_far))
            more = list(so_far)
            more[number] += 1
            self.assertFalse(possible(rows, more))
        self.assertEqual(passed(rows, takes), passing(rows, takes))
        dries = []
        for number, row in enumerate(rows):
            dries.append(dry_by_words(rows, takes, number) if takes[number] < row[2] else None)
        self.assertEqual(dry(rows), dries)


class Told(Reaches):
    def test_no_rows(self):
        self.assert_told([], [], [])
        self.assertEqual(passed([], []), [])

    def test_one_row(self):
        self.assert_told([(None, 0, 0, 0)], [0], [None])
        self.assert_told([(None, 5, 0, 0)], [0], [None])
        self.assert_told([(None, 0, 5, 0)], [0], [0])
        self.assert_told([(None, 4, 5, 0)], [4], [0])
        self.assert_told([(None, 5, 5, 0)], [5], [None])
        self.assert_told([(None, 6, 5, 0)], [5], [None])
        self.assertEqual(passed([(None, 6, 5, 0)], [5]), [1])
        self.assertEqual(passed([(None, 6, 5, 0)], [0]), [6])

    def test_a_line_with_ranks_alike(self):
        self.assert_told(line_of((5, 3, 1), (0, 3, 1), (0, 3, 1)), [3, 2, 0], [None, 1, 2])
        self.assert_told(line_of((5, 3, 1), (0, 3, 1), (1, 3, 1)), [3, 2, 1], [None, 1, 2])
        self.assert_told(line_of((5, 3, 1), (0, 2, 1), (0, 0, 1)), [3, 2, 0], [None, None, None])

    def test_a_line_served_from_below(self):
        self.assert_told(line_of((5, 3, 2), (0, 3, 1), (0, 3, 0)), [0, 2, 3], [2, 2, None])
        self.assert_told(line_of((5, 3, 2), (0, 3, 1), (4, 3, 0)), [2, 3, 3], [1, None, None])
        self.assert_told(line_of((6, 3, 2), (0, 3, 1), (4, 3, 0)), [3, 3, 3], [None, None, None])
        self.assert_told(line_of((5, 3, 2), (0, 3, 1), (2, 3, 0)), [1, 3, 3], [2, None, None])

    def test_water_too_little_above(self):
        self.assert_told(line_of((1, 3, 0), (9, 3, 1)), [1, 3], [0, None])
        self.assert_told(line_of((1, 3, 1), (9, 3, 0)), [1, 3], [0, None])
        self.assert_told(line_of((0, 3, 0), (9, 3, 1)), [0, 3], [0, None])

    def test_water_too_little_below(self):
        self.assert_told(line_of((3, 3, 0), (0, 3, 1)), [3, 0], [None, 1])
        self.assert_told(line_of((3, 3, 1), (0, 3, 0)), [0, 3], [1, None])
        self.assert_told(line_of((3, 3, 1), (0, 2, 0)), [1, 2], [1, None])

    def test_the_water_of_a_row_below_does_not_go_up(self):
        self.assert_told(line_of((0, 4, 0), (4, 4, 1)), [0, 4], [0, None])

    def test_many_rows_into_one(self):
        self.assert_told(fan_of((2, 2, 1), (2, 2, 1), (2, 2, 1), (0, 5, 0)), [1, 0, 0, 5], [3, 3, 3, None])
        self.assert_told(fan_of((2, 2, 1), (2, 2, 0), (2, 2, 2), (0, 3, 1)), [2, 2, 0, 2], [None, None, 3, 3])
        self.assert_told(fan_of((0, 2, 1), (2, 2, 2), (3, 0, 0), (0, 3, 1)), [0, 2, 0, 3], [0, None, None, None])

    def test_several_trees(self):
        rows = [(2, 3, 2, 1), (3, 0, 2, 0), (None, 0, 2, 1), (None, 1, 1, 5), (None, 0, 1, 0)]
        self.assert_told(rows, [2, 0, 1, 1, 0], [None, 1, 2, None, 4])

    def test_the_dry_place_is_the_first_that_nothing_passes(self):
        # Row 0 itself.
        self.assert_told(line_of((2, 3, 1), (0, 0, 9), (9, 2, 0)), [2, 0, 2], [0, None, None])
        # A row next to it, though nothing passes the last one either.
        self.assert_told(line_of((2, 3, 2), (0, 2, 0), (0, 0, 9), (1, 1, 1)), [0, 2, 0, 1], [1, None, None, None])
        # The last one, though a row between takes nothing and needs nothing.
        self.assert_told(line_of((4, 4, 3), (0, 0, 0), (0, 4, 1)), [0, 0, 4], [2, None, None])

    def test_the_dry_place_is_on_the_own_way_down(self):
        # Nothing passes rows 1 and 2; row 0 is kept from its need by row 3, row 1 by having no water itself.
        rows = fan_of((1, 1, 3), (0, 1, 2), (2, 2, 0), (0, 1, 1))
        self.assert_told(rows, [0, 0, 2, 1], [3, 1, None, None])

    def test_rows_of_one_reach_with_dry_places_of_their_own(self):
        rows = [(1, 5, 3, 2), (2, 0, 5, 1), (None, 0, 2, 0), (None, 1, 2, 0)]
        self.assert_told(rows, [0, 3, 2, 1], [2, 2, None, 3])
        rows = [(1, 4, 4, 3), (3, 0, 0, 0), (3, 1, 2, 2), (None, 0, 4, 1)]
        self.assert_told(rows, [0, 0, 1, 4], [3, None, 2, None])

    def test_needs_of_0_have_no_dry_place(self):
        self.assert_told(line_of((0, 0, 0), (0, 0, 0), (0, 0, 0)), [0, 0, 0], [None] * 3)

    def test_ranks_alike_go_by_the_rows(self):
        self.assert_told(fan_of((2, 2, 7), (2, 2, 7), (0, 3, 7)), [2, 2, 0], [None, None, 2])
        self.assert_told(fan_of((2, 2, 7), (2, 2, 6), (0, 3, 7)), [2, 2, 0], [None, None, 2])
        self.assert_told(line_of((3, 2, 0), (0, 2, 0)), [2, 1], [None, 1])

    def test_numbers_of_forty_figures(self):
        self.assert_told([(None, GREAT, GREAT, GREAT)], [GREAT], [None])
        self.assert_told([(None, GREAT - 1, GREAT, GREAT)], [GREAT - 1], [0])
        rows = line_of((GREAT, GREAT, GREAT), (1, GREAT, GREAT - 1))
        self.assert_told(rows, [1, GREAT], [1, None])

    def test_what_passes_is_told_of_any_takes_that_are_possible(self):
        rows = line_of((5, 3, 2), (1, 3, 1), (0, 3, 0))
        self.assertEqual(passed(rows, [0, 0, 0]), [5, 6, 6])
        self.assertEqual(passed(rows, [1, 2, 3]), [4, 3, 0])
        self.assertEqual(passed(rows, [3, 3, 0]), [2, 0, 0])
        self.assertEqual(passed(fan_of((1, 1, 0), (2, 2, 0), (3, 3, 0)), [1, 0, 2]), [0, 2, 3])
        self.assertEqual(passed([(None, 1, 1, 0), (None, 2, 2, 0)], [1, 1]), [0, 1])


class ByWords(Reaches):
    def test_all_small_reaches(self):
        for downs in ([(None,)], [(1, None), (None,)]):
            parts = itertools.product(range(4), range(4), range(2))
            for chosen in itertools.product(parts, repeat=len(downs)):
                for down in itertools.product(*downs):
                    rows = [(below,) + part for below, part in zip(down, chosen)]
                    self.assertEqual(shares(rows), all_shares(rows))
                    self.assert_by_words(rows)

    def test_reaches_of_three_to_five_rows(self):
        chance = random.Random(12)
        for number in range(1500):
            rows = random_rows(chance, chance.randrange(3, 6), 3, chance.randrange(1, 6))
            with self.subTest(rows=rows):
                self.assertEqual(shares(rows), all_shares(rows))
                self.assert_by_words(rows)

    def test_reaches_of_up_to_forty_rows(self):
        chance = random.Random(13)
        for number in range(60):
            rows = random_rows(chance, chance.randrange(6, 41), chance.choice((5, GREAT)), chance.choice((1, 4, 40)))
            with self.subTest(rows=rows):
                self.assert_by_words(rows)

    def test_forty_rows_in_one_line_and_into_one(self):
        chance = random.Random(14)
        for shape in (line_of, fan_of):
            for most in (1, 9, GREAT):
                parts = [tuple([chance.randrange(most + 1) for part in range(3)]) for number in range(40)]
                self.assert_by_words(shape(*parts))

    def test_more_water_never_takes_from_a_share(self):
        chance = random.Random(15)
        for number in range(400):
            rows = random_rows(chance, chance.randrange(1, 9), 5, 4)
            richer = [(down, water + chance.randrange(3), need, rank) for down, water, need, rank in rows]
            with self.subTest(rows=rows, richer=richer):
                self.assertTrue(all(more >= less for more, less in zip(shares(richer), shares(rows))))


class Lists(Reaches):
    def test_lists_handed_in_stay(self):
        rows = line_of((5, 3, 2), (0, 3, 1), (0, 3, 0))
        takes = [0, 2, 3]
        shares(rows)
        dry(rows)
        passed(rows, takes)
        self.assertEqual(rows, line_of((5, 3, 2), (0, 3, 1), (0, 3, 0)))
        self.assertEqual(takes, [0, 2, 3])

    def test_lists_told_are_new_and_the_askers_own(self):
        rows = line_of((5, 3, 2), (0, 3, 1), (0, 3, 0))
        takes = [0, 2, 3]
        for ask in (lambda: shares(rows), lambda: dry(rows), lambda: passed(rows, takes)):
            first = ask()
            kept = list(first)
            self.assertIsInstance(first, list)
            first.append(99)
            first[0] = 99
            self.assertEqual(ask(), kept)
            self.assertIsNot(ask(), ask())
        self.assertEqual((rows, takes), (line_of((5, 3, 2), (0, 3, 1), (0, 3, 0)), [0, 2, 3]))

    def test_nothing_is_taken_nothing_is_new_either(self):
        takes = [0]
        told = passed([(None, 0, 0, 0)], takes)
        told[0] = 5
        self.assertEqual(takes, [0])


if __name__ == "__main__":
    unittest.main()
