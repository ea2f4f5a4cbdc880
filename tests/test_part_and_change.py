"""Points 3 and 4: part and change."""

import unittest

from asking import AMPERES, BEGIN, HIGHEST, LOWEST, OHMS, SOLVE, VOLTS, ask, ask_net
from resistornets.wiring import Net

INSIDE = {
    OHMS: (1, 2, 999999, 1000000),
    VOLTS: (-1000000, -999999, -1, 0, 1, 1000000),
    AMPERES: (-1000000, -999999, -1, 0, 1, 1000000),
}
OUTSIDE = {
    OHMS: (0, -1, -1000000, 1000001, LOWEST, HIGHEST),
    VOLTS: (-1000001, 1000001, LOWEST, HIGHEST),
    AMPERES: (-1000001, 1000001, LOWEST, HIGHEST),
}
WRONG_IN_THREE_NODES = [
    (-1, 0, 1, 1), (3, 0, 1, 1), (LOWEST, 0, 1, 1), (HIGHEST, 0, 1, 1),
    (OHMS, -1, 1, 1), (OHMS, 1, -1, 1), (OHMS, 3, 1, 1), (OHMS, 1, 3, 1),
    (VOLTS, LOWEST, 1, 1), (VOLTS, 1, HIGHEST, 1), (AMPERES, HIGHEST, LOWEST, 1),
    (OHMS, 0, 0, 1), (VOLTS, 1, 1, 1), (AMPERES, 2, 2, 1),
    # -2 would be node 1 counted from the end, and -3 node 0.
    (OHMS, 0, -2, 1), (OHMS, -3, 1, 1),
    # Node 3 would be the same as itself, but there isn't one.
    (OHMS, 3, 3, 1), (OHMS, -1, -1, 1),
] + [(kind, 0, 1, much) for kind in OUTSIDE for much in OUTSIDE[kind]]


class TakenParts(unittest.TestCase):
    def test_numbers_go_up_from_0_over_all_kinds(self):
        parts = [("part", number % 3, number % 4, (number + 1) % 4, number + 1) for number in range(24)]
        told = ask(BEGIN, ("nodes", 4), *parts)
        self.assertEqual(told, [0, 0] + list(range(24)))

    def test_much_just_inside_each_range(self):
        for kind in INSIDE:
            for much in INSIDE[kind]:
                self.assertEqual(ask(BEGIN, ("nodes", 2), ("part", kind, 0, 1, much)), [0, 0, 0], (kind, much))

    def test_every_pair_of_different_nodes_either_way(self):
        for a in range(12):
            for b in range(12):
                told = ask(BEGIN, ("nodes", 12), ("part", OHMS, a, b, 1))
                self.assertEqual(told, [0, 0, -1 if a == b else 0], (a, b))

    def test_several_parts_between_the_same_nodes(self):
        self.assertEqual(ask_net(2, [(OHMS, 0, 1, 1)] * 24, SOLVE), [1])

    def test_a_part_keeps_what_it_was_told(self):
        net = Net(3)
        self.assertEqual(net.add_part(AMPERES, 2, 1, -7), 0)
        part = net.parts[0]
        self.assertEqual((part.kind, part.a, part.b, part.much), (AMPERES, 2, 1, -7))


class RefusedParts(unittest.TestCase):
    def test_wrong_numbers(self):
        for part in WRONG_IN_THREE_NODES:
            self.assertEqual(ask(BEGIN, ("nodes", 3), ("part",) + part), [0, 0, -1], part)

    def test_a_refused_part_is_not_counted(self):
        for part in WRONG_IN_THREE_NODES:
            told = ask_net(
                3, [(OHMS, 0, 1, 1)],
                ("part",) + part, ("change", 1, 1), ("part", OHMS, 1, 2, 1), ("change", 1, 1), SOLVE)
            self.assertEqual(told, [-1, -1, 1, 0, 1], part)

    def test_a_refused_part_joins_nothing(self):
        for much in OUTSIDE[OHMS]:
            self.assertEqual(ask_net(2, [], ("part", OHMS, 0, 1, much), SOLVE), [-1, 0], much)

    def test_a_refused_source_of_volts_makes_no_ring(self):
        for much in OUTSIDE[VOLTS]:
            self.assertEqual(ask_net(2, [(VOLTS, 0, 1, 5)], ("part", VOLTS, 1, 0, much), SOLVE), [-1, 1], much)

    def test_no_more_than_24(self):
        told = ask_net(3, [(AMPERES, 0, 1, 1)] * 24, *[("part", kind, 0, 1, 1) for kind in (0, 1, 2)])
        self.assertEqual(told, [-2, -2, -2])

    def test_the_part_too_many_changes_nothing(self):
        told = ask_net(
            2, [(AMPERES, 0, 1, 1)] * 24,
            ("part", OHMS, 0, 1, 1), SOLVE, ("change", 24, 1), ("change", 23, 1), ("part", OHMS, 0, 1, 1))
        self.assertEqual(told, [-2, 0, -1, 0, -2])

    def test_wrong_numbers_come_ahead_of_no_room(self):
        wrong = [("part",) + part for part in WRONG_IN_THREE_NODES]
        told = ask_net(3, [(OHMS, 0, 1, 1)] * 24, *wrong)
        self.assertEqual(told, [-1] * len(wrong))


class Change(unittest.TestCase):
    def test_much_just_inside_each_range(self):
        for kind in INSIDE:
            changes = [("change", 0, much) for much in INSIDE[kind]]
            self.assertEqual(ask_net(2, [(kind, 0, 1, 1)], *changes), [0] * len(changes), kind)

    def test_much_outside_the_range_of_the_parts_own_kind(self):
        for kind in OUTSIDE:
            changes = [("change", kind, much) for much in OUTSIDE[kind]]
            told = ask_net(2, [(OHMS, 0, 1, 1), (VOLTS, 0, 1, 1), (AMPERES, 0, 1, 1)], *changes)
            self.assertEqual(told, [-1] * len(changes), kind)

    def test_0_is_much_for_sources_alone(self):
        told = ask_net(
            2, [(OHMS, 0, 1, 1), (VOLTS, 0, 1, 1), (AMPERES, 0, 1, 1)],
            ("change", 0, 0), ("change", 1, 0), ("change", 2, 0))
        self.assertEqual(told, [-1, 0, 0])

    def test_parts_that_there_are_not(self):
        numbers = (-1, 2, -2, 24, LOWEST, HIGHEST)
        told = ask_net(2, [(OHMS, 0, 1, 1)] * 2, *[("change", number, 1) for number in numbers])
        self.assertEqual(told, [-1] * len(numbers))
        self.assertEqual(ask_net(2, [], ("change", 0, 1), ("change", -1, 1)), [-1, -1])

    def test_each_of_24_parts(self):
        changes = [("change", number, 7) for number in range(24)]
        self.assertEqual(ask_net(2, [(OHMS, 0, 1, 1)] * 24, *changes, ("change", 24, 7)), [0] * 24 + [-1])

    def test_what_solve_tells_afterwards(self):
        joined = [(OHMS, 0, 1, 1), (VOLTS, 1, 2, 5), (AMPERES, 2, 0, 3)]
        told = ask_net(
            3, joined,
            SOLVE, ("change", 0, 1000000), SOLVE, ("change", 1, 0), SOLVE, ("change", 2, -9), SOLVE,
            ("change", 0, 0), SOLVE)
        self.assertEqual(told, [1, 0, 1, 0, 1, 0, 1, -1, 1])

    def test_solve_stays_0_whether_sources_of_volts_come_to_agree_or_not(self):
        told = ask_net(
            2, [(VOLTS, 0, 1, 5), (VOLTS, 0, 1, 6)],
            SOLVE, ("change", 1, 5), SOLVE, ("change", 0, 0), ("change", 1, 0), SOLVE)
        self.assertEqual(told, [0, 0, 0, 0, 0, 0])

    def test_the_part_has_so_much_from_then_on_and_no_other_part(self):
        net = Net(2)
        for much in (1, 2, 3):
            net.add_part(OHMS, 0, 1, much)
        self.assertEqual(net.change_part(1, 50), 0)
        self.assertEqual([part.much for part in net.parts], [1, 50, 3])
        self.assertEqual([(part.kind, part.a, part.b) for part in net.parts], [(OHMS, 0, 1)] * 3)

    def test_a_refused_change_changes_nothing(self):
        net = Net(2)
        for kind in (OHMS, VOLTS, AMPERES):
            net.add_part(kind, 0, 1, 4)
        for kind in OUTSIDE:
            for much in OUTSIDE[kind]:
                self.assertEqual(net.change_part(kind, much), -1)
        self.assertEqual(net.change_part(-1, 9), -1)
        self.assertEqual(net.change_part(3, 9), -1)
        self.assertEqual([part.much for part in net.parts], [4, 4, 4])


if __name__ == "__main__":
    unittest.main()
