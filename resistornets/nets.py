"""The calls on one net, one behind another, and their answers."""

from resistornets.joining import has_one_solution
from resistornets.measuring import amperes_answer, between_answer, volts_answer, watts_answer
from resistornets.refusals import NO_NET, WRONG_NUMBER
from resistornets.wiring import Net, is_node_count

BEGIN = 0
NODES = 1
PART = 2
CHANGE = 3
SOLVE = 4
VOLTS = 5
AMPERES = 6
WATTS = 7

# By call: how many numbers stand behind the call's own.
NUMBERS_BEHIND = (0, 1, 4, 2, 0, 1, 1, 1, 2)


class Line:
    def __init__(self):
        self.net = None

    def answer(self, call, numbers):
        if call == BEGIN:
            self.net = None
            return [0]
        if call == NODES:
            return [self.lay_nodes(numbers[0])]
        if self.net is None:
            return [NO_NET]
        return self.answer_in_net(call, numbers)

    def lay_nodes(self, node_count):
        if not is_node_count(node_count):
            return WRONG_NUMBER
        self.net = Net(node_count)
        return 0

    def answer_in_net(self, call, numbers):
        if call == PART:
            return [self.net.add_part(numbers[0], numbers[1], numbers[2], numbers[3])]
        if call == CHANGE:
            return [self.net.change_part(numbers[0], numbers[1])]
        if call == SOLVE:
            return [1 if has_one_solution(self.net) else 0]
        return self.measure(call, numbers)

    def measure(self, call, numbers):
        if call == VOLTS:
            return volts_answer(self.net, numbers[0])
        if call == AMPERES:
            return amperes_answer(self.net, numbers[0])
        if call == WATTS:
            return watts_answer(self.net, numbers[0])
        return between_answer(self.net, numbers[0], numbers[1])


def answers(calls):
    line = Line()
    told = []
    at = 0
    while at < len(calls):
        call = calls[at]
        behind = at + 1 + NUMBERS_BEHIND[call]
        answer = line.answer(call, calls[at + 1:behind])
        told.append(len(answer))
        told.extend(answer)
        at = behind
    return told
