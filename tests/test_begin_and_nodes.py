"""Points 1 and 2: begin and nodes."""

import unittest

from asking import AMPERES, BEGIN, HIGHEST, LOWEST, OHMS, SOLVE, VOLTS, ask, ask_net

IN_A_NET = [
    ("part", OHMS, 0, 1, 5),
    ("part", VOLTS, 0, 1, 0),
    ("part", AMPERES, 1, 0, -3),
    ("part", 3, 0, 1, 5),
    ("part", -1, 0, 0, 0),
    ("part", LOWEST, HIGHEST, LOWEST, HIGHEST),
    ("change", 0, 1),
    ("change", -1, 0),
    ("change", HIGHEST, LOWEST),
    SOLVE,
    ("volts", 0), ("volts", LOWEST),
    ("amperes", 0), ("amperes", HIGHEST),
    ("watts", 0), ("watts", -1),
    ("between", 0, 1), ("between", 0, 0), ("between", LOWEST, HIGHEST),
]


class Begin(unittest.TestCase):
    def test_answers_0_once_and_again(self):
        self.assertEqual(ask(BEGIN), [0])
        self.assertEqual(ask(BEGIN, BEGIN, BEGIN), [0, 0, 0])

    def test_all_others_but_nodes_answer_minus_4_without_a_net(self):
        self.assertEqual(ask(BEGIN, *IN_A_NET), [0] + [-4] * len(IN_A_NET))

    def test_begin_again_leaves_no_net(self):
        told = ask_net(2, [(OHMS, 0, 1, 5)], SOLVE, BEGIN, *IN_A_NET)
        self.assertEqual(told, [1, 0] + [-4] * len(IN_A_NET))

    def test_a_net_may_be_laid_after_begin_again(self):
        told = ask_net(2, [(OHMS, 0, 1, 5)], BEGIN, ("nodes", 3), SOLVE, ("part", OHMS, 2, 1, 5))
        self.assertEqual(told, [0, 0, 0, 0])

    def test_nodes_needs_no_net(self):
        self.assertEqual(ask(BEGIN, ("nodes", 13), ("nodes", 2)), [0, -1, 0])


class Nodes(unittest.TestCase):
    def test_every_count_that_may_be(self):
        for count in range(2, 13):
            self.assertEqual(ask(BEGIN, ("nodes", count), SOLVE), [0, 0, 0], count)

    def test_counts_that_may_not_be(self):
        for count in (1, 13, 0, -1, -2, -12, 14, 24, 1000000, LOWEST, HIGHEST):
            self.assertEqual(ask(BEGIN, ("nodes", count)), [0, -1], count)

    def test_the_net_has_just_so_many_nodes(self):
        for count in range(2, 13):
            told = ask(BEGIN, ("nodes", count), ("part", OHMS, 0, count, 1), ("part", OHMS, 0, count - 1, 1))
            self.assertEqual(told, [0, 0, -1, 0], count)

    def test_a_refused_count_leaves_no_net_where_there_is_none(self):
        told = ask(BEGIN, ("nodes", 1), SOLVE, ("part", OHMS, 0, 1, 1), ("nodes", 13), ("change", 0, 1))
        self.assertEqual(told, [0, -1, -4, -4, -1, -4])

    def test_a_refused_count_leaves_the_net_as_it_was(self):
        for count in (1, 13, LOWEST, HIGHEST):
            told = ask_net(
                3, [(OHMS, 0, 1, 5), (VOLTS, 1, 2, 5)],
                ("nodes", count), SOLVE, ("change", 1, -5), ("part", OHMS, 0, 3, 1), ("part", OHMS, 0, 2, 1))
            self.assertEqual(told, [-1, 1, 0, -1, 2], count)

    def test_nodes_again_gives_a_net_without_parts(self):
        told = ask_net(
            2, [(OHMS, 0, 1, 5), (OHMS, 0, 1, 6)],
            SOLVE, ("nodes", 2), SOLVE, ("change", 0, 1), ("part", OHMS, 0, 1, 1), ("change", 1, 1), SOLVE)
        self.assertEqual(told, [1, 0, 0, -1, 0, -1, 1])

    def test_nodes_again_makes_room_for_24_parts_again(self):
        parts = [(AMPERES, 0, 1, 1)] * 24
        more = [("part",) + part for part in parts]
        told = ask_net(2, parts, ("nodes", 2), *more, more[0])
        self.assertEqual(told, [0] + list(range(24)) + [-2])


if __name__ == "__main__":
    unittest.main()
