"""Flows with prices [2, 27 to 29].

Arcs are (FROM, TO, MOST, GAIN).
"""

import copy
import random
import sys
import unittest

from builders import GREAT, all_flows, one_more, raised, random_net
from sluiceway.errors import NoWay
from sluiceway.flows import best

MANY_CUBES = 10 ** 30


def gains(arcs, flow):
    return sum([cubes * arc[3] for cubes, arc in zip(flow, arcs)])


def calls_in(call, *handed):
    """How many calls are made within a call: steps counted without a clock."""
    made = []
    sys.setprofile(lambda frame, event, thing: made.append(event) if event == "call" else None)
    try:
        call(*handed)
    finally:
        sys.setprofile(None)
    return len(made)


class Told(unittest.TestCase):
    def told(self, many, arcs, supplies):
        """What best tells, once all is looked through that can be seen in it alone."""
        before = copy.deepcopy((arcs, supplies))
        told = best(many, arcs, supplies)
        self.assertEqual((arcs, supplies), before)
        self.assertEqual((type(told), len(told)), (tuple, 3))
        earned, flow, prices = told
        self.assertEqual([type(flow), type(prices), len(flow), len(prices)], [list, list, len(arcs), many])
        self.assertEqual({type(number) for number in [earned] + flow + prices}, {int})
        self.assert_flow(many, arcs, supplies, flow)
        self.assertEqual(earned, gains(arcs, flow))
        self.assert_prices(arcs, flow, prices)
        return told

    def assert_flow(self, many, arcs, supplies, flow):
        there = list(supplies) + [0]
        for (node, end, most, gain), cubes in zip(arcs, flow):
            self.assertGreaterEqual(cubes, 0)
            if most is not None:
                self.assertLessEqual(cubes, most)
            there[node] -= cubes
            there[end] += cubes
        self.assertEqual(there, [0] * many + [sum(supplies)])

    def assert_prices(self, arcs, flow, prices):
        """The two sentences of point 29."""
        prices = prices + [0]
        for (node, end, most, gain), cubes in zip(arcs, flow):
            if most is None or cubes < most:
                self.assertGreaterEqual(prices[node], gain + prices[end])
            if cubes > 0:
                self.assertLessEqual(prices[node], gain + prices[end])

    def assert_best(self, many, arcs, supplies):
        """With one cube more at a node just its price more is earned."""
        earned, flow, prices = self.told(many, arcs, supplies)
        for node in range(many):
            more = self.told(many, arcs, one_more(supplies, node))
            self.assertEqual(more[0], earned + prices[node], (node, arcs, supplies))

    def assert_earned(self, many, arcs, supplies, earned, prices):
        told = self.told(many, arcs, supplies)
        self.assertEqual((told[0], told[2]), (earned, prices))
        self.assert_best(many, arcs, supplies)


class OneNode(Told):
    def test_one_arc(self):
        for gain in (-1000, -3, 0, 1, 1000):
            for cubes in (0, 1, 10, MANY_CUBES):
                with self.subTest(gain=gain, cubes=cubes):
                    self.assertEqual(best(1, [(0, 1, None, gain)], [cubes]), (gain * cubes, [cubes], [gain]))
                    self.assert_best(1, [(0, 1, None, gain)], [cubes])

    def test_a_bounded_arc_that_earns_more(self):
        arcs = [(0, 1, None, 2), (0, 1, 5, 7)]
        told = {0: (0, [0, 0], [7]), 1: (7, [0, 1], [7]), 4: (28, [0, 4], [7]), 5: (35, [0, 5], [2]),
                6: (37, [1, 5], [2]), MANY_CUBES: (25 + 2 * MANY_CUBES, [MANY_CUBES - 5, 5], [2])}
        for cubes, answer in told.items():
            with self.subTest(cubes=cubes):
                self.assertEqual(best(1, arcs, [cubes]), answer)

    def test_a_bounded_arc_that_earns_less_stays_empty(self):
        for gain in (1, 0, -5):
            self.assertEqual(best(1, [(0, 1, 5, gain), (0, 1, None, 2)], [9]), (18, [0, 9], [2]))

    def test_nothing_goes_along_an_arc_of_most_0(self):
        self.assertEqual(best(1, [(0, 1, 0, 1000), (0, 1, None, -1000)], [3]), (-3000, [0, 3], [-1000]))
        self.assertEqual(best(1, [(0, 1, 0, 1000), (0, 1, None, -1000)], [0]), (0, [0, 0], [-1000]))

    def test_all_must_go_though_it_costs(self):
        self.assertEqual(best(1, [(0, 1, None, -4), (0, 1, 2, -1)], [5]), (-14, [3, 2], [-4]))

    def test_several_arcs_one_better_than_the_other(self):
        arcs = [(0, 1, 1, 1), (0, 1, 2, 9), (0, 1, None, -3), (0, 1, 3, 5), (0, 1, None, 0)]
        earned = [0, 9, 18, 23, 28, 33, 34, 34, 34]
        for cubes, most in enumerate(earned):
            price = earned[cubes + 1] - most if cubes < 7 else 0
            self.assert_earned(1, arcs, [cubes], most, [price])

    def test_arcs_without_a_bound_beside_one_another(self):
        self.assertEqual(best(1, [(0, 1, None, 1), (0, 1, None, 6), (0, 1, None, 5)], [4]), (24, [0, 4, 0], [6]))


class ManyNodes(Told):
    def test_a_line_in_which_one_arc_alone_leads_to_the_goal(self):
        for many in (2, 7, 60):
            arcs = [(node, node + 1, None, node) for node in range(many)]
            prices = [sum(range(node, many)) for node in range(many)]
            for cubes in (0, 1, 10, MANY_CUBES):
                told = self.told(many, arcs, [cubes] * many)
                self.assertEqual(told, (cubes * sum(prices), [cubes * (node + 1) for node in range(many)], prices))

    def test_arcs_told_in_any_order(self):
        arcs = [(2, 3, None, 1), (0, 2, 4, 5), (1, 3, 1, 9), (0, 1, None, 0), (1, 2, None, -2), (2, 3, 3, 4)]
        chance = random.Random(271)
        told = best(3, arcs, [6, 2, 1])
        for number in range(30):
            chance.shuffle(arcs)
            again = self.told(3, arcs, [6, 2, 1])
            self.assertEqual((again[0], again[2]), (told[0], told[2]))

    def test_a_far_gain_is_worth_a_near_loss(self):
        arcs = [(0, 1, None, -10), (0, 2, None, 5), (1, 2, 3, 40), (1, 2, None, 0), (2, 3, None, 1)]
        self.assert_earned(3, arcs, [2, 0, 0], 62, [31, 41, 1])
        self.assert_earned(3, arcs, [3, 0, 0], 93, [6, 16, 1])
        self.assert_earned(3, arcs, [5, 0, 0], 105, [6, 16, 1])
        self.assert_earned(3, arcs, [2, 1, 0], 103, [6, 16, 1])

    def test_supplies_that_meet_at_a_narrow_arc_go_by_what_they_lose_elsewhere(self):
        # Nodes 0 and 1 both could use the narrow arc of node 2; node 1 has nearly as good a way beside it.
        arcs = [(0, 2, None, 0), (1, 2, None, 0), (1, 3, None, 9), (2, 3, 4, 10), (2, 3, None, 0)]
        self.assert_earned(3, arcs, [4, 4, 0], 76, [0, 9, 0])
        self.assert_earned(3, arcs, [3, 4, 0], 67, [9, 9, 9])
        self.assert_earned(3, arcs, [5, 4, 0], 76, [0, 9, 0])

    def test_what_goes_by_nodes_without_a_supply(self):
        arcs = [(0, 1, None, 0), (1, 2, None, 0), (2, 3, 7, 3), (2, 3, None, -1)]
        self.assert_earned(3, arcs, [8, 0, 0], 20, [-1, -1, -1])
        self.assert_earned(3, arcs, [0, 0, 8], 20, [-1, -1, -1])
        self.assert_earned(3, arcs, [3, 3, 0], 18, [3, 3, 3])

    def test_no_supply_at_all(self):
        arcs = [(0, 1, 0, 500), (0, 1, None, -5), (0, 2, 1, 3), (1, 2, None, 7)]
        self.assertEqual(best(2, arcs, [0, 0]), (0, [0, 0, 0, 0], [3, 7]))

    def test_supplies_at_every_node_of_many_kinds(self):
        chance = random.Random(272)
        for number in range(40):
            arcs = random_net(chance, 10, 30, (0, 1, 3, 10, None), 1000)
            self.assert_best(10, arcs, [chance.choice((1, 10, MANY_CUBES)) for node in range(10)])


class GivenBack(Told):
    """Ways that earn at first, and must be given back when more water comes."""

    # The best single way is 0, 1, 2, goal; two cubes must leave the arc from 1 to 2.
    CROSSING = [(0, 1, 1, 10), (0, 2, 1, 6), (1, 2, 1, 5), (1, 3, 1, 7), (2, 3, 1, 10),
                (0, 3, None, -100), (1, 3, None, -100), (2, 3, None, -100)]

    def test_the_way_in_the_middle(self):
        told = self.told(3, self.CROSSING, [1, 0, 0])
        self.assertEqual(told, (25, [1, 0, 1, 0, 1, 0, 0, 0], [8, 7, 2]))
        told = self.told(3, self.CROSSING, [2, 0, 0])
        self.assertEqual(told[:2], (33, [1, 1, 0, 1, 1, 0, 0, 0]))
        self.assert_best(3, self.CROSSING, [2, 0, 0])

    def test_given_back_by_another_nodes_supply(self):
        # What node 0 sent by the arc of node 1 must make place for the supply of node 1, which loses more.
        arcs = [(0, 1, None, 0), (0, 2, None, 4), (1, 2, 3, 9), (1, 2, None, -20)]
        self.assert_earned(2, arcs, [3, 0], 27, [4, 4])
        self.assert_earned(2, arcs, [3, 1], 31, [4, 4])
        self.assert_earned(2, arcs, [3, 3], 39, [4, -20])
        self.assert_earned(2, arcs, [3, 4], 19, [4, -20])

    def test_as_wide_as_can_be(self):
        wide = MANY_CUBES
        arcs = [(node, end, most and most * wide, gain) for node, end, most, gain in self.CROSSING]
        told = self.told(3, arcs, [2 * wide, 0, 0])
        self.assertEqual(told[:2], (33 * wide, [wide, wide, 0, wide, wide, 0, 0, 0]))
        told = self.told(3, arcs, [wide + 1, 0, 0])
        self.assertEqual((told[0], told[1][2]), (25 * wide + 8, wide - 1))

    def test_a_narrow_arc_between_wide_ways(self):
        # Sent and given back one cube at a time, this would never end.
        wide = MANY_CUBES
        arcs = [(0, 1, wide, 0), (0, 2, wide, 0), (1, 2, 1, 0), (1, 3, wide, 0), (2, 3, wide, 0),
                (0, 3, None, -9), (1, 3, None, -9), (2, 3, None, -9)]
        self.assert_earned(3, arcs, [2 * wide, 0, 0], 0, [-9, -9, -9])
        self.assert_earned(3, arcs, [2 * wide - 1, 0, 0], 0, [0, 0, 0])

    def test_many_crossings_one_behind_the_other(self):
        chance = random.Random(273)
        arcs = []
        for first in range(0, 57, 3):
            arcs += [(first, first + 1, chance.randint(1, 9), 10), (first, first + 2, chance.randint(1, 9), 6),
                     (first + 1, first + 2, chance.randint(1, 9), 5), (first + 1, first + 3, chance.randint(1, 9), 7),
                     (first + 2, first + 3, chance.randint(1, 9), 10)]
        arcs += [(node, node + 1, None, -100) for node in range(57)]
        for cubes in (1, 5, 10, 20, MANY_CUBES):
            self.assert_best(57, arcs, [cubes] + [0] * 56)


class Tried(Told):
    """Small nets, of which all flows are tried."""

    def assert_most(self, many, arcs, supplies):
        flows = all_flows(many, arcs, supplies)
        earned, flow, prices = self.told(many, arcs, supplies)
        self.assertIn(flow, flows)
        self.assertEqual(earned, max([gains(arcs, other) for other in flows]), (many, arcs, supplies))

    def test_nets_by_chance(self):
        chance = random.Random(274)
        for number in range(400):
            many = chance.randint(1, 4)
            gain = chance.choice((1, 2, 9, 1000))
            arcs = random_net(chance, many, many + chance.randint(0, 4), (0, 1, 2, 3, None), gain)
            supplies = [chance.choice((0, 0, 1, 2, 3)) for node in range(many)]
            self.assert_most(many, arcs, supplies)
            for node in range(many):
                self.assert_most(many, arcs, one_more(supplies, node))
            self.assert_best(many, arcs, supplies)

    def test_the_crossing(self):
        for supplies in ([0, 0, 0], [1, 0, 0], [2, 0, 0], [3, 0, 0], [1, 1, 0], [1, 1, 1], [2, 1, 2]):
            self.assert_most(3, GivenBack.CROSSING, supplies)


class Great(Told):
    def test_nets_of_sixty_nodes_and_three_hundred_arcs(self):
        chance = random.Random(275)
        for mosts in ((0, 1, 2, 5, 10, None), (1, 10, 100, 1000), (10 ** 28, 3 * 10 ** 29, MANY_CUBES, 7)):
            arcs = random_net(chance, 60, 300, mosts, 1000)
            self.assert_best(60, arcs, [chance.choice((0, 1, 10, MANY_CUBES)) for node in range(60)])

    def test_nets_by_chance(self):
        chance = random.Random(276)
        for number in range(60):
            many = chance.randint(1, 60)
            gain = chance.choice((0, 1, 30, 1000))
            arcs = random_net(chance, many, chance.randint(many, 300), (0, 1, 4, 9, 50, MANY_CUBES, None), gain)
            supplies = [chance.choice((0, 1, 10, MANY_CUBES)) for node in range(many)]
            earned, flow, prices = self.told(many, arcs, supplies)
            for node in (0, many - 1, chance.randrange(many)):
                more = self.told(many, arcs, one_more(supplies, node))
                self.assertEqual(more[0], earned + prices[node])

    def test_forty_figures(self):
        arcs = [(0, 1, GREAT, 1000), (0, 2, None, -1000), (1, 2, GREAT - 1, 7), (1, 2, None, 0)]
        self.assert_earned(2, arcs, [GREAT, 0], 1000 * GREAT + 7 * (GREAT - 1), [-1000, 0])
        self.assert_earned(2, arcs, [GREAT, GREAT], 1000 * GREAT + 7 * (GREAT - 1), [-1000, 0])

    def test_longest_ways_of_greatest_gains(self):
        for gain in (-1000, 1000):
            arcs = [(node, node + 1, None, gain) for node in range(60)]
            prices = [gain * (60 - node) for node in range(60)]
            self.assertEqual(best(60, arcs, [1] + [0] * 59), (60 * gain, [1] * 60, prices))

    def test_many_cubes_take_no_more_steps_than_few(self):
        chance = random.Random(277)
        for number in range(5):
            arcs = random_net(chance, 30, 120, (0, 1, 2, 5), 1000)
            # With this many cubes each bounded arc is as full as it will be, so that nothing is left to find out.
            steps = calls_in(best, 30, arcs, [1000] * 30)
            self.assertEqual(calls_in(best, 30, arcs, [MANY_CUBES] * 30), steps)

    def test_as_many_times_the_cubes_take_no_more_steps(self):
        chance = random.Random(278)
        for number in range(5):
            arcs = random_net(chance, 30, 120, (0, 1, 2, 5, None), 1000)
            wider = [(node, end, most and most * MANY_CUBES, gain) for node, end, most, gain in arcs]
            supplies = [chance.choice((0, 1, 10)) for node in range(30)]
            steps = calls_in(best, 30, arcs, supplies)
            self.assertEqual(calls_in(best, 30, wider, [cubes * MANY_CUBES for cubes in supplies]), steps)
            earned, flow, prices = best(30, arcs, supplies)
            told = best(30, wider, [cubes * MANY_CUBES for cubes in supplies])
            self.assertEqual(told[0], earned * MANY_CUBES)


class Refused(unittest.TestCase):
    def assert_no_way(self, many, arcs, node):
        for cubes in (0, 1, 10, MANY_CUBES):
            self.assertEqual(raised(best, many, arcs, [cubes] * many), (NoWay, [node]), (many, arcs))

    def test_no_arcs(self):
        self.assert_no_way(1, [], 0)
        self.assert_no_way(5, [], 0)

    def test_only_bounded_arcs_lead_on(self):
        self.assert_no_way(1, [(0, 1, 10 ** 39, 5)], 0)
        self.assert_no_way(2, [(0, 1, 9, 5), (0, 2, 9, 5), (1, 2, None, 0)], 0)
        self.assert_no_way(2, [(0, 1, None, 5), (1, 2, 9, 5), (1, 2, 0, 5)], 1)

    def test_a_bound_of_0_is_a_bound(self):
        self.assert_no_way(1, [(0, 1, 0, 5)], 0)

    def test_the_first_such_node(self):
        unbounded = [(node, node + 1, None, 1) for node in range(6)]
        for node in range(6):
            self.assert_no_way(6, unbounded[:node] + unbounded[node + 1:], node)
            self.assert_no_way(6, unbounded[:node], node)
            self.assert_no_way(6, list(reversed(unbounded[:node])) + [(5, 6, 3, 1)], node)

    def test_an_arc_that_leads_there_is_none_that_leads_on(self):
        self.assert_no_way(3, [(0, 1, None, 0), (0, 2, None, 0), (2, 3, None, 0)], 1)

    def test_each_node_with_one_is_not_refused(self):
        for end in range(1, 4):
            self.assertIsNone(raised(best, 3, [(2, 3, None, 0), (1, 3, None, 0), (0, end, None, 0)], [1, 1, 1]))

    def test_what_is_handed_in_stays(self):
        arcs = [(0, 1, None, 0)]
        supplies = [1, 2]
        raised(best, 2, arcs, supplies)
        self.assertEqual((arcs, supplies), ([(0, 1, None, 0)], [1, 2]))


class Own(unittest.TestCase):
    def test_lists_told_are_new_and_the_askers_own(self):
        arcs = [(0, 1, 2, 5), (0, 2, None, 1), (1, 2, None, 0)]
        supplies = [3, 0]
        first = best(2, arcs, supplies)
        kept = copy.deepcopy(first)
        second = best(2, arcs, supplies)
        first[1].append(99)
        first[2].append(99)
        self.assertEqual(second, kept)
        self.assertEqual(best(2, arcs, supplies), kept)
        self.assertEqual((arcs, supplies), ([(0, 1, 2, 5), (0, 2, None, 1), (1, 2, None, 0)], [3, 0]))
        arcs.append((0, 2, 1, 7))
        supplies[0] = 50
        self.assertEqual(second, kept)


if __name__ == "__main__":
    unittest.main()
