"""Point 5: solve, by nets told one by one and against the laws themselves."""

import itertools
import random
import unittest

from asking import AMPERES, BEGIN, OHMS, SOLVE, VOLTS, ask, ask_net, solution


def by_the_laws(node_count, parts):
    return 0 if solution(node_count, parts) is None else 1


class Solve(unittest.TestCase):
    def told(self, node_count, parts, expected):
        self.assertEqual(ask_net(node_count, parts, SOLVE), [expected], parts)
        self.assertEqual(by_the_laws(node_count, parts), expected, parts)

    def test_a_net_without_parts(self):
        for node_count in range(2, 13):
            self.told(node_count, [], 0)

    def test_joined_by_resistors_alone(self):
        self.told(2, [(OHMS, 0, 1, 1)], 1)
        self.told(2, [(OHMS, 1, 0, 1000000)], 1)
        self.told(3, [(OHMS, 0, 1, 1), (OHMS, 2, 1, 1)], 1)
        self.told(3, [(OHMS, 0, 1, 1), (OHMS, 1, 2, 2), (OHMS, 2, 0, 3)], 1)
        self.told(2, [(OHMS, 0, 1, 1), (OHMS, 0, 1, 1), (OHMS, 1, 0, 1)], 1)

    def test_joined_by_sources_of_volts_alone(self):
        self.told(2, [(VOLTS, 0, 1, 5)], 1)
        self.told(2, [(VOLTS, 1, 0, 0)], 1)
        self.told(4, [(VOLTS, 0, 1, 5), (VOLTS, 3, 1, -5), (VOLTS, 2, 0, 1000000)], 1)

    def test_joined_by_sources_of_amperes_alone(self):
        self.told(2, [(AMPERES, 0, 1, 5)], 0)
        self.told(2, [(AMPERES, 0, 1, 0)], 0)
        self.told(2, [(AMPERES, 0, 1, 5), (AMPERES, 1, 0, 5)], 0)
        self.told(3, [(OHMS, 0, 1, 1), (AMPERES, 1, 2, 5)], 0)
        self.told(4, [(OHMS, 0, 1, 1), (AMPERES, 1, 2, 5), (OHMS, 2, 3, 1), (AMPERES, 3, 0, 5)], 0)
        self.told(4, [(OHMS, 0, 1, 1), (AMPERES, 1, 2, 5), (VOLTS, 2, 3, 1), (AMPERES, 3, 0, 6)], 0)

    def test_nodes_that_nothing_joins_to_the_rest(self):
        self.told(3, [(OHMS, 0, 1, 1)], 0)
        self.told(3, [(VOLTS, 0, 2, 1)], 0)
        self.told(3, [(OHMS, 1, 2, 1)], 0)
        self.told(3, [(VOLTS, 1, 2, 1), (OHMS, 1, 2, 1)], 0)
        self.told(4, [(OHMS, 0, 1, 1), (OHMS, 2, 3, 1)], 0)
        self.told(4, [(OHMS, 0, 1, 1), (VOLTS, 2, 3, 1)], 0)
        self.told(12, [(OHMS, k, k + 1, 1) for k in range(10)], 0)

    def test_joined_by_both_resistors_and_sources_of_volts(self):
        self.told(3, [(OHMS, 0, 1, 1), (VOLTS, 1, 2, 5)], 1)
        self.told(2, [(OHMS, 0, 1, 1), (VOLTS, 0, 1, 5), (AMPERES, 0, 1, 5)], 1)
        self.told(4, [(VOLTS, 0, 1, 1), (VOLTS, 2, 3, 5), (OHMS, 1, 2, 1), (OHMS, 3, 0, 1)], 1)

    def test_sources_of_volts_side_by_side(self):
        for more in ([], [(OHMS, 0, 1, 1)]):
            self.told(2, more + [(VOLTS, 0, 1, 5), (VOLTS, 0, 1, 5)], 0)
            self.told(2, more + [(VOLTS, 0, 1, 5), (VOLTS, 1, 0, -5)], 0)
            self.told(2, more + [(VOLTS, 0, 1, 5), (VOLTS, 0, 1, 6)], 0)
            self.told(2, more + [(VOLTS, 0, 1, 5), (VOLTS, 1, 0, 5)], 0)
            self.told(2, more + [(VOLTS, 0, 1, 0), (VOLTS, 0, 1, 0)], 0)

    def test_sources_of_volts_in_a_ring(self):
        for last in (-3, 3, 0):
            self.told(3, [(VOLTS, 0, 1, 1), (VOLTS, 1, 2, 2), (VOLTS, 2, 0, last)], 0)
        ring = [(VOLTS, k, k + 1, 1) for k in range(11)]
        self.told(12, ring, 1)
        self.told(12, ring + [(VOLTS, 11, 0, -11)], 0)
        self.told(12, ring + [(VOLTS, 11, 0, 11)], 0)

    def test_a_ring_of_sources_of_volts_away_from_node_0(self):
        self.told(4, [(OHMS, 0, 1, 1), (VOLTS, 1, 2, 1), (VOLTS, 2, 3, 1), (VOLTS, 3, 1, -2)], 0)

    def test_a_ring_with_one_resistor_in_it(self):
        for order in itertools.permutations([(VOLTS, 0, 1, 1), (VOLTS, 1, 2, 2), (OHMS, 2, 0, 3)]):
            self.told(3, list(order), 1)

    def test_a_ring_with_a_source_of_amperes_in_it(self):
        self.told(3, [(VOLTS, 0, 1, 1), (VOLTS, 1, 2, 2), (AMPERES, 2, 0, 3)], 1)

    def test_12_nodes_and_24_parts(self):
        chain = [(OHMS, k, k + 1, k + 1) for k in range(11)]
        spokes = [(OHMS, 11, k, 1000000 - k) for k in range(11)]
        self.told(12, chain + spokes + [(VOLTS, 0, 11, 9), (AMPERES, 3, 8, 7)], 1)
        tree = [(VOLTS, k, k + 1, k - 5) for k in range(11)]
        self.told(12, tree + [(OHMS, k, 11, 1) for k in range(11)] + [(AMPERES, 0, 11, 9)] * 2, 1)
        self.told(12, tree + [(OHMS, k, 11, 1) for k in range(11)] + [(AMPERES, 0, 11, 9), (VOLTS, 0, 11, 9)], 0)
        self.told(12, chain[:10] + [(AMPERES, k, 11, 1) for k in range(11)] + [(OHMS, 0, 5, 1)] * 3, 0)

    def test_solve_as_the_net_grows(self):
        told = ask(
            BEGIN, ("nodes", 3), SOLVE, ("part", OHMS, 0, 1, 1), SOLVE, ("part", AMPERES, 1, 2, 1), SOLVE,
            ("part", VOLTS, 2, 0, 1), SOLVE, SOLVE, ("part", VOLTS, 1, 0, 1), SOLVE, ("part", VOLTS, 2, 1, 0), SOLVE)
        self.assertEqual(told, [0, 0, 0, 0, 0, 1, 0, 2, 1, 1, 3, 1, 4, 0])


class SolveByTheLaws(unittest.TestCase):
    def same(self, node_count, parts):
        self.assertEqual(ask_net(node_count, parts, SOLVE), [by_the_laws(node_count, parts)], (node_count, parts))

    def test_every_small_net(self):
        for node_count, most in ((2, 3), (3, 3)):
            pairs = list(itertools.permutations(range(node_count), 2))
            choices = [
                (kind, a, b, much)
                for kind, muches in ((OHMS, (1,)), (VOLTS, (0, 2)), (AMPERES, (3,))) for much in muches
                for a, b in pairs]
            for size in range(most + 1):
                for parts in itertools.combinations_with_replacement(choices, size):
                    self.same(node_count, list(parts))

    def test_many_larger_nets(self):
        draw = random.Random(20)
        seen = {0: 0, 1: 0}
        for trial in range(400):
            node_count = draw.randrange(2, 13)
            parts = []
            for number in range(draw.randrange(node_count - 1, min(24, 2 * node_count) + 1)):
                kind = draw.choice((OHMS, OHMS, OHMS, OHMS, VOLTS, AMPERES))
                a, b = draw.sample(range(node_count), 2)
                parts.append((kind, a, b, draw.choice((1, 2, 1000000))))
            self.same(node_count, parts)
            seen[by_the_laws(node_count, parts)] += 1
        self.assertGreater(min(seen.values()), 50)


if __name__ == "__main__":
    unittest.main()
