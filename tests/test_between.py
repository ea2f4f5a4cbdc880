"""Point 7: between."""

import itertools
import random
import unittest

from asking import AMPERES, BEGIN, HIGHEST, LOWEST, OHMS, SOLVE, VOLTS, ask, ask_net, drawn_net, pair, solution


def by_the_laws(node_count, parts, a, b):
    """The document's own words: sources at 0, one more source of one ampere, a's volts less b's."""
    quiet = [(kind, c, d, much if kind == OHMS else 0) for kind, c, d, much in parts]
    volts = solution(node_count, quiet + [(AMPERES, a, b, 1)])[0]
    return pair(volts[a] - volts[b])


class Between(unittest.TestCase):
    def told(self, node_count, parts, a, b, expected):
        """Both ways round, by hand and by the laws."""
        self.assertEqual(ask_net(node_count, parts, ("between", a, b), ("between", b, a)), [expected] * 2, parts)
        self.assertEqual(by_the_laws(node_count, parts, a, b), expected, parts)

    def test_one_resistor(self):
        for ohms in (1, 2, 999999, 1000000):
            self.told(2, [(OHMS, 0, 1, ohms)], 0, 1, (ohms, 1))
            self.told(2, [(OHMS, 1, 0, ohms)], 0, 1, (ohms, 1))

    def test_one_behind_another(self):
        parts = [(OHMS, 0, 1, 3), (OHMS, 2, 1, 4), (OHMS, 2, 3, 5)]
        for a, b, ohms in ((0, 1, 3), (0, 2, 7), (0, 3, 12), (1, 2, 4), (1, 3, 9), (2, 3, 5)):
            self.told(4, parts, a, b, (ohms, 1))

    def test_side_by_side(self):
        self.told(2, [(OHMS, 0, 1, 3), (OHMS, 1, 0, 6)], 0, 1, (2, 1))
        self.told(2, [(OHMS, 0, 1, 2), (OHMS, 0, 1, 3)], 0, 1, (6, 5))
        self.told(2, [(OHMS, 0, 1, 24)] * 24, 0, 1, (1, 1))
        self.told(3, [(OHMS, 0, 1, 1), (OHMS, 1, 2, 2), (OHMS, 2, 0, 3)], 1, 2, (4, 3))

    def test_a_bridge(self):
        arms = [(OHMS, 3, 1, 1), (OHMS, 3, 2, 2), (OHMS, 1, 0, 3), (OHMS, 2, 0, 4), (OHMS, 1, 2, 5)]
        self.told(4, arms, 3, 0, (170, 71))
        self.told(4, arms, 1, 2, (105, 71))

    def test_a_cube(self):
        edges = [(OHMS, a, b, 12) for a, b in itertools.combinations(range(8), 2) if a ^ b in (1, 2, 4)]
        self.assertEqual(len(edges), 12)
        self.told(8, edges, 0, 1, (7, 1))
        self.told(8, edges, 2, 7, (9, 1))
        self.told(8, edges, 3, 4, (10, 1))

    def test_sources_of_volts_join_their_nodes(self):
        parts = [(OHMS, 0, 1, 3), (VOLTS, 1, 2, 99), (OHMS, 2, 0, 6)]
        self.told(3, parts, 0, 1, (2, 1))
        self.told(3, parts, 0, 2, (2, 1))
        self.told(3, parts, 1, 2, (0, 1))
        self.told(2, [(OHMS, 0, 1, 3), (VOLTS, 0, 1, -1000000)], 0, 1, (0, 1))
        self.told(3, [(VOLTS, 0, 1, 1000000), (VOLTS, 1, 2, 1000000)], 0, 2, (0, 1))

    def test_sources_of_amperes_carry_nothing(self):
        self.told(2, [(OHMS, 0, 1, 3), (AMPERES, 0, 1, 99)], 0, 1, (3, 1))
        self.told(3, [(OHMS, 0, 1, 3), (OHMS, 1, 2, 4), (AMPERES, 2, 0, 1000000), (AMPERES, 1, 0, -7)], 0, 2, (7, 1))

    def test_nodes_that_are_not_node_0(self):
        self.told(4, [(OHMS, 0, 3, 9), (OHMS, 1, 2, 2), (OHMS, 2, 3, 5), (OHMS, 3, 1, 5)], 1, 2, (5, 3))

    def test_after_a_change(self):
        told = ask_net(
            2, [(OHMS, 0, 1, 3), (OHMS, 0, 1, 6), (AMPERES, 0, 1, 6)],
            ("between", 0, 1), ("change", 0, 6), ("between", 0, 1), ("change", 2, 8), ("between", 0, 1),
            ("change", 1, 0), ("between", 1, 0))
        self.assertEqual(told, [(2, 1), 0, (3, 1), 0, (3, 1), -1, (3, 1)])

    def test_a_net_of_24_parts(self):
        parts = [(OHMS, k, (k + 1) % 12, 1 + k) for k in range(12)]
        parts += [(OHMS, k, (k + 5) % 12, 1000000 - k) for k in range(10)] + [(VOLTS, 4, 9, 7), (AMPERES, 1, 3, 7)]
        self.assertEqual(len(parts), 24)
        for a, b in ((0, 1), (0, 11), (3, 8), (10, 2), (5, 6)):
            self.told(12, parts, a, b, by_the_laws(12, parts, a, b))
        self.told(12, parts, 4, 9, (0, 1))

    def test_drawn_nets(self):
        draw = random.Random(7)
        for trial in range(120):
            node_count = draw.randrange(2, 13)
            parts = drawn_net(draw, node_count, draw.randrange(node_count - 1, 25), (1, 2, 3, 10, 999983, 1000000))
            a, b = draw.sample(range(node_count), 2)
            self.told(node_count, parts, a, b, by_the_laws(node_count, parts, a, b))

    def test_no_resistance_is_below_0(self):
        draw = random.Random(8)
        parts = drawn_net(draw, 8, 20, (1, 5, 1000000))
        for a, b in itertools.permutations(range(8), 2):
            told = ask_net(8, parts, ("between", a, b))[0]
            self.assertGreaterEqual(told[0], 0)
            self.assertEqual(told, by_the_laws(8, parts, a, b))


class TheNetStaysAsItWas(unittest.TestCase):
    PARTS = [(VOLTS, 1, 0, 10), (OHMS, 1, 2, 3), (OHMS, 2, 0, 7), (AMPERES, 2, 0, 2)]

    def test_what_is_told_of_it(self):
        told_of = [SOLVE, ("volts", 2)] + [(call, number) for call in ("amperes", "watts") for number in range(4)]
        pairs = [("between", a, b) for a, b in itertools.permutations(range(3), 2)] + [("between", 0, 0)]
        told = ask_net(3, self.PARTS, *told_of, *pairs, *told_of)
        self.assertEqual(told[:len(told_of)], told[-len(told_of):])
        self.assertEqual(told[1], (56, 5))

    def test_how_many_parts_it_has(self):
        told = ask_net(
            3, self.PARTS, ("between", 0, 1), ("amperes", 4), ("change", 4, 1), ("part", OHMS, 0, 1, 1), ("amperes", 4))
        self.assertEqual(told, [(0, 1), -1, -1, 4, (-10, 1)])

    def test_24_parts_stay_24(self):
        told = ask_net(
            2, [(OHMS, 0, 1, 23)] * 23,
            ("between", 0, 1), ("between", 1, 0), ("part", AMPERES, 0, 1, 5), ("between", 0, 1),
            ("part", OHMS, 0, 1, 1), ("amperes", 23), ("amperes", 24), ("volts", 1))
        self.assertEqual(told, [(1, 1), (1, 1), 23, (1, 1), -2, (-5, 1), -1, (-5, 1)])


class RefusedBetween(unittest.TestCase):
    WRONG = [
        ("between", a, b) for a, b in (
            (0, 0), (1, 1), (2, 2), (3, 3), (-1, -1), (-1, 0), (0, -1), (3, 0), (0, 3), (1, -3), (-2, 0), (12, 1),
            (LOWEST, 0), (0, LOWEST), (HIGHEST, 1), (1, HIGHEST), (LOWEST, HIGHEST), (HIGHEST, HIGHEST))]
    WITHOUT_ONE_SOLUTION = [
        [],
        [(OHMS, 0, 1, 5)],
        [(OHMS, 1, 2, 5)],
        [(OHMS, 0, 1, 5), (AMPERES, 1, 2, 5)],
        [(VOLTS, 0, 1, 5), (AMPERES, 1, 2, 5), (AMPERES, 2, 0, 5)],
        [(OHMS, 0, 1, 5), (OHMS, 1, 2, 5), (VOLTS, 0, 1, 5), (VOLTS, 1, 0, -5)],
        [(OHMS, 0, 1, 5), (OHMS, 1, 2, 5), (VOLTS, 0, 1, 5), (VOLTS, 0, 1, 6)],
        [(OHMS, 0, 1, 5), (OHMS, 1, 2, 5), (VOLTS, 0, 1, 0), (VOLTS, 0, 1, 0)],
        [(VOLTS, 0, 1, 1), (VOLTS, 1, 2, 2), (VOLTS, 2, 0, -3), (OHMS, 0, 1, 5)],
    ]

    def test_nodes_that_there_are_not_or_that_are_the_same(self):
        parts = [(OHMS, 0, 1, 5), (OHMS, 1, 2, 5)]
        self.assertEqual(ask_net(3, parts, SOLVE, *self.WRONG), [1] + [-1] * len(self.WRONG))

    def test_no_one_solution(self):
        pairs = [("between", a, b) for a, b in itertools.permutations(range(3), 2)]
        for parts in self.WITHOUT_ONE_SOLUTION:
            self.assertEqual(ask_net(3, parts, SOLVE, *pairs), [0] + [-3] * len(pairs), parts)

    def test_wrong_nodes_come_ahead_of_no_one_solution(self):
        for parts in self.WITHOUT_ONE_SOLUTION:
            self.assertEqual(ask_net(3, parts, *self.WRONG), [-1] * len(self.WRONG), parts)

    def test_no_net_comes_ahead_of_all_else(self):
        calls = self.WRONG + [("between", 0, 1)]
        self.assertEqual(ask(BEGIN, *calls), [0] + [-4] * len(calls))
        self.assertEqual(ask_net(3, [(OHMS, 0, 1, 5)], BEGIN, *calls), [0] + [-4] * len(calls))

    def test_just_where_solve_answers_0(self):
        draw = random.Random(9)
        seen = {0: 0, 1: 0}
        for trial in range(150):
            count = draw.randrange(2, 7)
            parts = [
                (draw.choice((OHMS, OHMS, VOLTS, AMPERES)),) + tuple(draw.sample(range(count), 2)) + (3,)
                for number in range(draw.randrange(count, 2 * count + 1))]
            solve, between = ask_net(count, parts, SOLVE, ("between", 0, 1))
            self.assertEqual(between == -3, solve == 0, parts)
            seen[solve] += 1
        self.assertGreater(min(seen.values()), 30)


if __name__ == "__main__":
    unittest.main()
