"""Point 6: volts."""

import unittest

from asking import AMPERES, BEGIN, HIGHEST, LOWEST, OHMS, SOLVE, VOLTS, ask, ask_net, pair, solution

# Nets that don't have one solution, each with 3 nodes.
WITHOUT_ONE_SOLUTION = [
    [],
    [(OHMS, 0, 1, 5)],
    [(OHMS, 1, 2, 5)],
    [(VOLTS, 0, 1, 5), (AMPERES, 1, 2, 5)],
    [(AMPERES, 0, 1, 5), (AMPERES, 1, 2, 5), (AMPERES, 2, 0, 5)],
    [(OHMS, 0, 1, 5), (OHMS, 1, 2, 5), (VOLTS, 0, 1, 5), (VOLTS, 0, 1, 5)],
    [(OHMS, 0, 1, 5), (OHMS, 1, 2, 5), (VOLTS, 0, 1, 5), (VOLTS, 0, 1, 6)],
    [(VOLTS, 0, 1, 0), (VOLTS, 1, 2, 0), (VOLTS, 2, 0, 0), (OHMS, 0, 1, 5)],
    [(VOLTS, 0, 1, 1), (VOLTS, 1, 2, 2), (VOLTS, 2, 0, -3), (OHMS, 0, 1, 5)],
]


class Volts(unittest.TestCase):
    def told(self, parts, expected):
        """The volts of all nodes, by hand and by the laws."""
        calls = [("volts", node) for node in range(len(expected))]
        self.assertEqual(ask_net(len(expected), parts, *calls), expected, parts)
        self.assertEqual([pair(volts) for volts in solution(len(expected), parts)[0]], expected, parts)

    def test_a_source_of_volts_either_way_round(self):
        self.told([(VOLTS, 1, 0, 12)], [(0, 1), (12, 1)])
        self.told([(VOLTS, 0, 1, 12)], [(0, 1), (-12, 1)])
        self.told([(VOLTS, 1, 0, -12)], [(0, 1), (-12, 1)])
        self.told([(VOLTS, 0, 1, -12)], [(0, 1), (12, 1)])
        self.told([(VOLTS, 0, 1, 0)], [(0, 1), (0, 1)])

    def test_a_source_of_amperes_either_way_round(self):
        for resistor in ((OHMS, 0, 1, 3), (OHMS, 1, 0, 3)):
            self.told([resistor, (AMPERES, 1, 0, 5)], [(0, 1), (15, 1)])
            self.told([resistor, (AMPERES, 0, 1, 5)], [(0, 1), (-15, 1)])
            self.told([resistor, (AMPERES, 1, 0, -5)], [(0, 1), (-15, 1)])
            self.told([(AMPERES, 0, 1, -5), resistor], [(0, 1), (15, 1)])
            self.told([(AMPERES, 0, 1, 0), resistor], [(0, 1), (0, 1)])

    def test_resistors_without_a_source(self):
        self.told([(OHMS, 0, 1, 1), (OHMS, 1, 2, 1000000), (OHMS, 2, 0, 7)], [(0, 1)] * 3)

    def test_volts_in_parts(self):
        chain = [(OHMS, 1, 2, 3), (OHMS, 2, 0, 4)]
        self.told([(VOLTS, 1, 0, 10)] + chain, [(0, 1), (10, 1), (40, 7)])
        self.told(chain + [(VOLTS, 0, 1, 10)], [(0, 1), (-10, 1), (-40, 7)])
        self.told(chain + [(VOLTS, 1, 0, 14)], [(0, 1), (14, 1), (8, 1)])

    def test_node_0_has_0_volts_wherever_it_stands(self):
        chain = [(VOLTS, 1, 0, 6), (OHMS, 0, 2, 1), (OHMS, 1, 2, 2)]
        self.told(chain, [(0, 1), (6, 1), (2, 1)])
        self.told([(VOLTS, 2, 1, 6), (OHMS, 0, 2, 1), (OHMS, 1, 0, 2)], [(0, 1), (-4, 1), (2, 1)])
        self.told([(VOLTS, 2, 1, 5), (OHMS, 0, 2, 1)], [(0, 1), (-5, 1), (0, 1)])

    def test_two_sources_of_volts(self):
        self.told(
            [(VOLTS, 1, 0, 5), (VOLTS, 2, 0, -7), (OHMS, 1, 3, 2), (OHMS, 2, 3, 3), (OHMS, 3, 0, 6)],
            [(0, 1), (5, 1), (-7, 1), (1, 6)])

    def test_sources_of_volts_one_behind_another(self):
        self.told([(VOLTS, 1, 0, 5), (VOLTS, 1, 2, 8), (VOLTS, 3, 2, 1)], [(0, 1), (5, 1), (-3, 1), (-2, 1)])

    def test_both_kinds_of_sources(self):
        # 3 amperes come into node 2, where 2 ohms lead to 12 volts and 6 ohms to 0 volts.
        self.told(
            [(VOLTS, 1, 0, 12), (OHMS, 1, 2, 2), (OHMS, 2, 0, 6), (AMPERES, 2, 0, 3)], [(0, 1), (12, 1), (27, 2)])

    def test_a_bridge(self):
        arms = [(OHMS, 3, 1, 1), (OHMS, 3, 2, 2), (OHMS, 1, 0, 3), (OHMS, 2, 0, 4), (OHMS, 1, 2, 5)]
        self.told([(VOLTS, 3, 0, 1)] + arms, [(0, 1), (63, 85), (58, 85), (1, 1)])

    def test_several_parts_between_the_same_nodes(self):
        self.told([(OHMS, 0, 1, 2), (OHMS, 1, 0, 3), (AMPERES, 1, 0, 4), (AMPERES, 0, 1, 9)], [(0, 1), (-6, 1)])

    def test_as_the_net_grows(self):
        told = ask(
            BEGIN, ("nodes", 2), ("volts", 1), ("part", AMPERES, 1, 0, 6), ("volts", 1), ("part", OHMS, 0, 1, 2),
            ("volts", 1), ("part", OHMS, 0, 1, 2), ("volts", 1), ("part", VOLTS, 1, 0, -9), ("volts", 1),
            ("part", VOLTS, 1, 0, -9), ("volts", 1), ("nodes", 2), ("volts", 1))
        self.assertEqual(told, [0, 0, -3, 0, -3, 1, (12, 1), 2, (6, 1), 3, (-9, 1), 4, -3, 0, -3])


class RefusedVolts(unittest.TestCase):
    def test_nodes_that_there_are_not(self):
        for count in range(2, 13):
            parts = [(OHMS, node, node + 1, 5) for node in range(count - 1)]
            wrong = [("volts", node) for node in (-1, count, count + 1, -count, 12, LOWEST, HIGHEST)]
            self.assertEqual(ask_net(count, parts, *wrong, ("volts", count - 1)), [-1] * len(wrong) + [(0, 1)])

    def test_no_one_solution(self):
        for parts in WITHOUT_ONE_SOLUTION:
            calls = [("volts", node) for node in range(3)]
            self.assertEqual(ask_net(3, parts, SOLVE, *calls), [0, -3, -3, -3], parts)

    def test_a_node_that_there_is_not_comes_ahead_of_no_one_solution(self):
        for parts in WITHOUT_ONE_SOLUTION:
            wrong = [("volts", node) for node in (-1, 3, -3, LOWEST, HIGHEST)]
            self.assertEqual(ask_net(3, parts, *wrong), [-1] * len(wrong), parts)

    def test_no_net_comes_ahead_of_all_else(self):
        calls = [("volts", node) for node in (0, 1, -1, 12, LOWEST, HIGHEST)]
        self.assertEqual(ask(BEGIN, *calls), [0] + [-4] * len(calls))
        self.assertEqual(ask(BEGIN, ("nodes", 13), *calls), [0, -1] + [-4] * len(calls))
        self.assertEqual(ask_net(2, [(OHMS, 0, 1, 5)], BEGIN, *calls), [0] + [-4] * len(calls))

    def test_nothing_changes(self):
        told = ask_net(
            2, [(OHMS, 0, 1, 5)],
            ("volts", 2), ("volts", -1), SOLVE, ("part", AMPERES, 1, 0, 1), ("volts", 1), ("volts", 1), ("volts", 0))
        self.assertEqual(told, [-1, -1, 1, 1, (5, 1), (5, 1), (0, 1)])


if __name__ == "__main__":
    unittest.main()
