"""What all solutions keep to: each law that the document writes, asked of drawn nets without solving them here."""

import random
import unittest
from fractions import Fraction

from asking import AMPERES, OHMS, VOLTS, ask_net, drawn_net

MUCHES = (1, 2, 3, 7, 10, 255, 256, 999983, 999999, 1000000)


class EveryLaw(unittest.TestCase):
    def keeps(self, node_count, parts, volts, amperes, watts):
        self.assertEqual(volts[0], 0)
        flows = [Fraction(0)] * node_count
        for (kind, a, b, much), flow, power in zip(parts, amperes, watts):
            flows[a] += flow
            flows[b] -= flow
            drop = volts[a] - volts[b]
            if kind == OHMS:
                self.assertEqual(drop, much * flow)
            elif kind == VOLTS:
                self.assertEqual(drop, much)
            else:
                self.assertEqual(flow, -much)
            self.assertEqual(power, drop * flow)
        self.assertEqual(flows, [0] * node_count)
        self.assertEqual(sum(watts), 0)

    def asked(self, node_count, parts, changes=()):
        calls = list(changes) + [("volts", node) for node in range(node_count)]
        calls += [(call, number) for call in ("amperes", "watts") for number in range(len(parts))]
        told = ask_net(node_count, parts, *calls)[len(changes):]
        fractions = [Fraction(divided, divisor) for divided, divisor in told]
        watts = fractions[node_count + len(parts):]
        return fractions[:node_count], fractions[node_count:node_count + len(parts)], watts

    def test_drawn_nets(self):
        draw = random.Random(1)
        for trial in range(150):
            node_count = draw.randrange(2, 13)
            parts = drawn_net(draw, node_count, draw.randrange(node_count - 1, 25), MUCHES)
            self.keeps(node_count, parts, *self.asked(node_count, parts))

    def test_drawn_nets_after_changes(self):
        draw = random.Random(2)
        for trial in range(60):
            node_count = draw.randrange(2, 13)
            parts = drawn_net(draw, node_count, draw.randrange(node_count, 25), MUCHES)
            changed, changes = list(parts), []
            for number in draw.sample(range(len(parts)), 2):
                much = draw.choice(MUCHES)
                changed[number] = parts[number][:3] + (much,)
                changes.append(("change", number, much))
            self.keeps(node_count, changed, *self.asked(node_count, parts, changes))

    def test_all_kinds_were_drawn(self):
        draw = random.Random(1)
        kinds = {part[0] for trial in range(20) for part in drawn_net(draw, 6, 12, MUCHES)}
        self.assertEqual(kinds, {OHMS, VOLTS, AMPERES})


if __name__ == "__main__":
    unittest.main()
