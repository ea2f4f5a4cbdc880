"""Point 6: amperes and watts, and all three calls of it after a change."""

import unittest

from asking import AMPERES, BEGIN, HIGHEST, LOWEST, OHMS, SOLVE, VOLTS, ask, ask_net, pair, solution

# Nets that don't have one solution, each with 3 nodes and 4 parts.
WITHOUT_ONE_SOLUTION = [
    [(OHMS, 0, 1, 5), (OHMS, 0, 1, 6), (OHMS, 1, 0, 7), (VOLTS, 0, 1, 8)],
    [(OHMS, 0, 1, 5), (VOLTS, 0, 1, 6), (AMPERES, 1, 2, 7), (AMPERES, 2, 0, 7)],
    [(AMPERES, 0, 1, 5), (AMPERES, 1, 2, 5), (AMPERES, 2, 0, 5), (AMPERES, 0, 1, 0)],
    [(VOLTS, 0, 1, 5), (VOLTS, 0, 1, 5), (OHMS, 1, 2, 5), (AMPERES, 0, 1, 5)],
    [(VOLTS, 0, 1, 5), (VOLTS, 0, 1, 6), (OHMS, 1, 2, 5), (AMPERES, 0, 1, 5)],
    [(VOLTS, 0, 1, 1), (VOLTS, 1, 2, 2), (VOLTS, 2, 0, -3), (OHMS, 0, 1, 5)],
]
WRONG_OF_4_PARTS = (-1, 4, 5, -4, 24, LOWEST, HIGHEST)


def of_all_parts(call, parts):
    return [(call, number) for number in range(len(parts))]


class AmperesAndWatts(unittest.TestCase):
    def told(self, node_count, parts, amperes, watts):
        """The amperes and watts of all parts, by hand and by the laws."""
        self.assertEqual(ask_net(node_count, parts, *of_all_parts("amperes", parts)), amperes, parts)
        self.assertEqual(ask_net(node_count, parts, *of_all_parts("watts", parts)), watts, parts)
        by_laws = solution(node_count, parts)
        self.assertEqual([pair(flow) for flow in by_laws[1]], amperes, parts)
        drops = [by_laws[0][a] - by_laws[0][b] for kind, a, b, much in parts]
        self.assertEqual([pair(drop * flow) for drop, flow in zip(drops, by_laws[1])], watts, parts)

    def test_a_resistor_either_way_round(self):
        self.told(2, [(OHMS, 1, 0, 4), (VOLTS, 1, 0, 12)], [(3, 1), (-3, 1)], [(36, 1), (-36, 1)])
        self.told(2, [(OHMS, 0, 1, 4), (VOLTS, 1, 0, 12)], [(-3, 1), (-3, 1)], [(36, 1), (-36, 1)])

    def test_a_source_of_volts_either_way_round(self):
        resistor = (OHMS, 1, 0, 5)
        self.told(2, [(VOLTS, 1, 0, 12), resistor], [(-12, 5), (12, 5)], [(-144, 5), (144, 5)])
        self.told(2, [(VOLTS, 0, 1, 12), resistor], [(-12, 5), (-12, 5)], [(-144, 5), (144, 5)])
        self.told(2, [(VOLTS, 1, 0, -12), resistor], [(12, 5), (-12, 5)], [(-144, 5), (144, 5)])
        self.told(2, [(VOLTS, 0, 1, -12), resistor], [(12, 5), (12, 5)], [(-144, 5), (144, 5)])

    def test_a_source_of_amperes_either_way_round(self):
        resistor = (OHMS, 1, 0, 3)
        self.told(2, [(AMPERES, 1, 0, 5), resistor], [(-5, 1), (5, 1)], [(-75, 1), (75, 1)])
        self.told(2, [(AMPERES, 0, 1, 5), resistor], [(-5, 1), (-5, 1)], [(-75, 1), (75, 1)])
        self.told(2, [(AMPERES, 1, 0, -5), resistor], [(5, 1), (-5, 1)], [(-75, 1), (75, 1)])
        self.told(2, [(AMPERES, 0, 1, -5), resistor], [(5, 1), (5, 1)], [(-75, 1), (75, 1)])

    def test_a_source_that_another_drives(self):
        self.told(2, [(VOLTS, 1, 0, 12), (AMPERES, 1, 0, 5)], [(5, 1), (-5, 1)], [(60, 1), (-60, 1)])
        self.told(2, [(VOLTS, 1, 0, 12), (AMPERES, 0, 1, 5)], [(-5, 1), (-5, 1)], [(-60, 1), (60, 1)])

    def test_nothing_flows(self):
        self.told(2, [(OHMS, 0, 1, 7)], [(0, 1)], [(0, 1)])
        self.told(2, [(VOLTS, 0, 1, 7)], [(0, 1)], [(0, 1)])
        self.told(3, [(VOLTS, 0, 1, 7), (OHMS, 1, 2, 3)], [(0, 1)] * 2, [(0, 1)] * 2)
        self.told(2, [(AMPERES, 0, 1, 0), (VOLTS, 0, 1, 7)], [(0, 1)] * 2, [(0, 1)] * 2)

    def test_a_source_of_0_volts_carries_what_flows(self):
        parts = [(VOLTS, 1, 0, 6), (OHMS, 1, 2, 4), (VOLTS, 2, 0, 0)]
        self.told(3, parts, [(-3, 2), (3, 2), (3, 2)], [(-9, 1), (9, 1), (0, 1)])

    def test_a_source_of_amperes_with_0_volts_across_it(self):
        parts = [(AMPERES, 1, 0, 6), (VOLTS, 1, 0, 0)]
        self.told(2, parts, [(-6, 1), (6, 1)], [(0, 1), (0, 1)])

    def test_resistors_side_by_side(self):
        parts = [(AMPERES, 1, 0, 10), (OHMS, 1, 0, 2), (OHMS, 0, 1, 3)]
        self.told(2, parts, [(-10, 1), (6, 1), (-4, 1)], [(-120, 1), (72, 1), (48, 1)])

    def test_sources_of_volts_between_other_parts(self):
        parts = [
            (OHMS, 1, 0, 2), (VOLTS, 1, 0, 4), (OHMS, 2, 1, 3), (AMPERES, 3, 0, 7), (VOLTS, 2, 0, 10), (VOLTS, 3, 2, 1)]
        self.told(
            4, parts,
            [(2, 1), (0, 1), (2, 1), (-7, 1), (5, 1), (7, 1)], [(8, 1), (0, 1), (12, 1), (-77, 1), (50, 1), (7, 1)])

    def test_a_bridge(self):
        arms = [(OHMS, 3, 1, 1), (OHMS, 3, 2, 2), (OHMS, 1, 0, 3), (OHMS, 2, 0, 4), (OHMS, 1, 2, 5)]
        self.told(
            4, arms + [(VOLTS, 3, 0, 85)],
            [(22, 1), (27, 2), (21, 1), (29, 2), (1, 1), (-71, 2)],
            [(484, 1), (729, 2), (1323, 1), (841, 1), (5, 1), (-6035, 2)])

    def test_each_of_24_parts(self):
        parts = [(OHMS, 1, 0, 1 + number) for number in range(23)] + [(VOLTS, 0, 1, -1)]
        told = ask_net(2, parts, *of_all_parts("amperes", parts[:23]), ("amperes", 24), ("watts", 24))
        self.assertEqual(told, [(1, 1 + number) for number in range(23)] + [-1, -1])


class Refused(unittest.TestCase):
    def both(self, numbers):
        return [(call, number) for call in ("amperes", "watts") for number in numbers]

    def test_parts_that_there_are_not(self):
        parts = [(OHMS, 0, 1, 5), (VOLTS, 1, 2, 5), (AMPERES, 2, 0, 5), (OHMS, 2, 0, 5)]
        wrong = self.both(WRONG_OF_4_PARTS)
        self.assertEqual(ask_net(3, parts, SOLVE, *wrong), [1] + [-1] * len(wrong))

    def test_parts_of_a_net_without_parts(self):
        calls = self.both((0, -1, 1))
        self.assertEqual(ask_net(2, [], *calls), [-1] * len(calls))

    def test_no_one_solution(self):
        for parts in WITHOUT_ONE_SOLUTION:
            calls = self.both(range(4))
            self.assertEqual(ask_net(3, parts, SOLVE, *calls), [0] + [-3] * len(calls), parts)

    def test_a_part_that_there_is_not_comes_ahead_of_no_one_solution(self):
        for parts in WITHOUT_ONE_SOLUTION:
            wrong = self.both(WRONG_OF_4_PARTS)
            self.assertEqual(ask_net(3, parts, SOLVE, *wrong), [0] + [-1] * len(wrong), parts)

    def test_no_net_comes_ahead_of_all_else(self):
        calls = self.both((0, -1, 24, LOWEST, HIGHEST))
        self.assertEqual(ask(BEGIN, *calls), [0] + [-4] * len(calls))
        self.assertEqual(ask(BEGIN, ("nodes", 1), *calls), [0, -1] + [-4] * len(calls))
        self.assertEqual(ask_net(2, [(OHMS, 0, 1, 5)], BEGIN, *calls), [0] + [-4] * len(calls))

    def test_nothing_changes(self):
        told = ask_net(
            2, [(VOLTS, 1, 0, 6), (OHMS, 1, 0, 2)],
            ("amperes", 2), ("watts", -1), ("amperes", 1), ("watts", 1), SOLVE, ("part", OHMS, 0, 1, 1))
        self.assertEqual(told, [-1, -1, (3, 1), (18, 1), 1, 2])


class AfterAChange(unittest.TestCase):
    PARTS = [(VOLTS, 1, 0, 10), (OHMS, 1, 2, 3), (OHMS, 2, 0, 7), (AMPERES, 2, 0, 2)]
    ALL = [("volts", node) for node in range(3)] + of_all_parts("amperes", PARTS) + of_all_parts("watts", PARTS)

    def test_the_parts_new_much_holds(self):
        for number, much in ((0, -4), (0, 0), (1, 1000000), (2, 1), (3, -1000000), (3, 0)):
            changed = [part if at != number else part[:3] + (much,) for at, part in enumerate(self.PARTS)]
            told = ask_net(3, self.PARTS, *self.ALL, ("change", number, much), *self.ALL)
            before, after = told[:len(self.ALL)], told[len(self.ALL) + 1:]
            self.assertEqual(after, ask_net(3, changed, *self.ALL), (number, much))
            self.assertNotEqual(after, before, (number, much))

    def test_told_by_hand(self):
        told = ask_net(
            2, [(VOLTS, 1, 0, 6), (OHMS, 1, 0, 2), (AMPERES, 0, 1, 1)],
            ("amperes", 0), ("change", 1, 3), ("amperes", 0), ("change", 0, -9), ("volts", 1), ("watts", 1),
            ("change", 2, -5), ("amperes", 2), ("watts", 2), ("amperes", 0))
        self.assertEqual(
            told, [(-4, 1), 0, (-3, 1), 0, (-9, 1), (27, 1), 0, (5, 1), (45, 1), (8, 1)])

    def test_changed_back(self):
        told = ask_net(3, self.PARTS, *self.ALL, ("change", 1, 9), ("change", 1, 3), *self.ALL)
        self.assertEqual(told[:len(self.ALL)], told[len(self.ALL) + 2:])

    def test_a_refused_change_leaves_them_as_they_were(self):
        for number, much in ((0, 1000001), (0, -1000001), (1, 0), (1, -3), (2, HIGHEST), (3, LOWEST), (4, 1), (-1, 1)):
            told = ask_net(3, self.PARTS, *self.ALL, ("change", number, much), *self.ALL)
            self.assertEqual(told[len(self.ALL)], -1)
            self.assertEqual(told[len(self.ALL) + 1:], told[:len(self.ALL)], (number, much))

    def test_a_refused_part_leaves_them_as_they_were(self):
        for part in ((OHMS, 0, 1, 0), (VOLTS, 2, 0, 1000001), (AMPERES, 2, 2, 1), (AMPERES, 3, 0, 1), (3, 0, 1, 1)):
            told = ask_net(3, self.PARTS, *self.ALL, ("part",) + part, *self.ALL)
            self.assertEqual(told[len(self.ALL)], -1)
            self.assertEqual(told[len(self.ALL) + 1:], told[:len(self.ALL)], part)


if __name__ == "__main__":
    unittest.main()
