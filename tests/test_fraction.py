"""How a fraction is told, and that every one that a net comes to is told whole."""

import random
import unittest
from fractions import Fraction
from math import prod

from asking import AMPERES, OHMS, VOLTS, ask_net, drawn_net, flat, laying, pair, solution, split
from resistornets.nets import answers

# The 24 greatest primes up to 1000000: no two ohms have anything in common.
PRIMES = [number for number in range(999500, 1000000) if all(number % k for k in range(2, 1001))][-24:]


def numbers_of(fraction):
    """The answer as the document tells it, number by number."""
    sign = 1 if fraction < 0 else 0
    both = (abs(fraction.numerator), fraction.denominator)
    return [0, sign] + [(number >> (8 * place)) & 255 for number in both for place in range(160)]


def raw(node_count, parts, call):
    return split(answers(flat(laying(node_count, parts) + [call])))[-1]


class HowItIsTold(unittest.TestCase):
    def test_0_is_0_by_1(self):
        nothing = [0, 0] + [0] * 160 + [1] + [0] * 159
        for part in ((OHMS, 0, 1, 7), (VOLTS, 0, 1, 7)):
            for call in (("volts", 0), ("amperes", 0), ("watts", 0)):
                self.assertEqual(raw(2, [part], call), nothing)
        self.assertEqual(raw(2, [(VOLTS, 0, 1, 7)], ("between", 0, 1)), nothing)
        self.assertEqual(raw(2, [(OHMS, 0, 1, 7), (AMPERES, 0, 1, 0)], ("amperes", 1)), nothing)

    def test_whole_numbers(self):
        self.assertEqual(raw(2, [(VOLTS, 1, 0, 5)], ("volts", 1)), [0, 0, 5] + [0] * 159 + [1] + [0] * 159)
        self.assertEqual(raw(2, [(VOLTS, 0, 1, 5)], ("volts", 1)), [0, 1, 5] + [0] * 159 + [1] + [0] * 159)

    def test_the_lowest_byte_comes_first(self):
        for much, low in ((255, [255]), (256, [0, 1]), (257, [1, 1]), (65536, [0, 0, 1]), (1000000, [64, 66, 15])):
            expected = low + [0] * (160 - len(low)) + [1] + [0] * 159
            self.assertEqual(raw(2, [(VOLTS, 1, 0, much)], ("volts", 1)), [0, 0] + expected)
            self.assertEqual(raw(2, [(VOLTS, 0, 1, much)], ("volts", 1)), [0, 1] + expected)

    def test_what_it_is_divided_by(self):
        parts = [(OHMS, 1, 0, 1000000), (VOLTS, 1, 0, 3)]
        self.assertEqual(
            raw(2, parts, ("amperes", 0)), [0, 0, 3] + [0] * 159 + [64, 66, 15] + [0] * 157)
        self.assertEqual(
            raw(2, parts, ("amperes", 1)), [0, 1, 3] + [0] * 159 + [64, 66, 15] + [0] * 157)

    def test_lowest_terms(self):
        for volts, ohms in ((6, 4), (4, 6), (1000000, 1000000), (1000000, 64), (999999, 3), (-30, 12), (0, 9)):
            told = raw(2, [(OHMS, 1, 0, ohms), (VOLTS, 1, 0, volts)], ("amperes", 0))
            self.assertEqual(told, numbers_of(Fraction(volts, ohms)))


class ManyBytes(unittest.TestCase):
    def test_24_ohms_side_by_side_that_have_nothing_in_common(self):
        parts = [(OHMS, 0, 1, ohms) for ohms in PRIMES]
        between = 1 / sum(Fraction(1, ohms) for ohms in PRIMES)
        self.assertEqual(between.numerator, prod(PRIMES))
        self.assertEqual(raw(2, parts, ("between", 0, 1)), numbers_of(between))

    def test_watts_of_more_than_110_bytes(self):
        ohms = PRIMES[:23]
        parts = [(OHMS, 1, 0, much) for much in ohms] + [(AMPERES, 0, 1, 1000000)]
        volts = -1000000 / sum(Fraction(1, much) for much in ohms)
        self.assertEqual(raw(2, parts, ("volts", 1)), numbers_of(volts))
        for number, much in enumerate(ohms):
            self.assertEqual(raw(2, parts, ("amperes", number)), numbers_of(volts / much))
            self.assertEqual(raw(2, parts, ("watts", number)), numbers_of(volts * volts / much))
        self.assertGreater((volts * volts / ohms[0]).numerator, 256 ** 110)
        self.assertEqual(raw(2, parts, ("watts", 23)), numbers_of(volts * 1000000))

    def test_12_nodes_and_24_parts_near_the_ends_of_the_ranges(self):
        draw = random.Random(3)
        for muches in (PRIMES, (1, 2, 999999, 1000000), (1000000,), (1,)):
            for trial in range(3):
                parts = drawn_net(draw, 12, 24, muches)
                self.same(12, parts)

    def test_every_count_of_nodes_with_24_parts(self):
        draw = random.Random(4)
        for node_count in range(2, 13):
            self.same(node_count, drawn_net(draw, node_count, 24, PRIMES + [1, 2, 1000000]))

    def same(self, node_count, parts):
        volts, amperes = solution(node_count, parts)
        watts = [(volts[a] - volts[b]) * flow for (kind, a, b, much), flow in zip(parts, amperes)]
        calls = [("volts", node) for node in range(node_count)]
        calls += [(call, number) for call in ("amperes", "watts") for number in range(len(parts))]
        expected = [pair(fraction) for fraction in volts + amperes + watts]
        self.assertEqual(ask_net(node_count, parts, *calls), expected, parts)


if __name__ == "__main__":
    unittest.main()
