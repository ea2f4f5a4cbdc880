"""What is told of a net that has one solution: volts, amperes, watts, and the resistance between nodes."""

from resistornets.joining import has_one_solution
from resistornets.refusals import NOT_ONE_SOLUTION, WRONG_NUMBER
from resistornets.solution import Solution
from resistornets.telling import told
from resistornets.wiring import RESISTOR, SOURCE_OF_AMPERES, Net, Part


def volts_answer(net, node):
    if not net.has_node(node):
        return [WRONG_NUMBER]
    if not has_one_solution(net):
        return [NOT_ONE_SOLUTION]
    return [0] + told(Solution(net).volts(node))


def amperes_answer(net, number):
    if not net.has_part(number):
        return [WRONG_NUMBER]
    if not has_one_solution(net):
        return [NOT_ONE_SOLUTION]
    return [0] + told(Solution(net).amperes(number))


def watts_answer(net, number):
    if not net.has_part(number):
        return [WRONG_NUMBER]
    if not has_one_solution(net):
        return [NOT_ONE_SOLUTION]
    return [0] + told(Solution(net).watts(number))


# Another net, as the net that is asked about stays as it is; its one part more may be the 25th.
def net_for_between(net, a, b):
    tried = Net(net.node_count)
    for part in net.parts:
        much = part.much if part.kind == RESISTOR else 0
        tried.parts.append(Part(part.kind, part.a, part.b, much))
    tried.parts.append(Part(SOURCE_OF_AMPERES, a, b, 1))
    return tried


def between_answer(net, a, b):
    if not net.has_two_nodes(a, b):
        return [WRONG_NUMBER]
    tried = net_for_between(net, a, b)
    if not has_one_solution(tried):
        return [NOT_ONE_SOLUTION]
    return [0] + told(Solution(tried).volts_between(a, b))
