"""The one solution of a net: its volts, amperes and watts.

A fraction is here a pair, what's divided and by what. It needn't be in lowest
terms, and either of the two may be below 0.
"""

from resistornets.elimination import solved
from resistornets.laws import law_rows, places_of_amperes
from resistornets.wiring import RESISTOR, SOURCE_OF_VOLTS


class Solution:
    # The net must have one solution.
    def __init__(self, net):
        unknowns = solved(law_rows(net))
        self.net = net
        self.divided = unknowns[:-1]
        self.divisor = unknowns[-1]

    def volts(self, node):
        return (self.divided[node], self.divisor)

    def volts_between(self, a, b):
        return (self.divided[a] - self.divided[b], self.divisor)

    def amperes(self, number):
        part = self.net.parts[number]
        if part.kind == RESISTOR:
            volts = self.volts_between(part.a, part.b)
            return (volts[0], volts[1] * part.much)
        if part.kind == SOURCE_OF_VOLTS:
            places = places_of_amperes(self.net)
            return (self.divided[places[number]], self.divisor)
        # Its amperes flow from b to a; told is what flows from a to b.
        return (-part.much, 1)

    def watts(self, number):
        part = self.net.parts[number]
        volts = self.volts_between(part.a, part.b)
        amperes = self.amperes(number)
        return (volts[0] * amperes[0], volts[1] * amperes[1])
