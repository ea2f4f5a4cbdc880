"""A net: its nodes, its parts, and what may be asked of either."""

from resistornets.refusals import NO_ROOM, WRONG_NUMBER

RESISTOR = 0
SOURCE_OF_VOLTS = 1
SOURCE_OF_AMPERES = 2

# By kind: a resistor of 0 ohms or fewer isn't one, a source may drive either way.
LEAST_MUCH = (1, -1000000, -1000000)
MOST_MUCH = 1000000

LEAST_NODES = 2
MOST_NODES = 12
MOST_PARTS = 24


def is_node_count(number):
    return LEAST_NODES <= number <= MOST_NODES


def is_kind(number):
    return 0 <= number < len(LEAST_MUCH)


def is_much(kind, number):
    return LEAST_MUCH[kind] <= number <= MOST_MUCH


class Part:
    def __init__(self, kind, a, b, much):
        self.kind = kind
        self.a = a
        self.b = b
        self.much = much


class Net:
    def __init__(self, node_count):
        self.node_count = node_count
        self.parts = []

    def has_node(self, number):
        return 0 <= number < self.node_count

    def has_part(self, number):
        return 0 <= number < len(self.parts)

    def has_two_nodes(self, a, b):
        return self.has_node(a) and self.has_node(b) and a != b

    def add_part(self, kind, a, b, much):
        # The kind comes first: there's no range of much for a kind that isn't one.
        if not is_kind(kind) or not self.has_two_nodes(a, b) or not is_much(kind, much):
            return WRONG_NUMBER
        if len(self.parts) == MOST_PARTS:
            return NO_ROOM
        self.parts.append(Part(kind, a, b, much))
        return len(self.parts) - 1

    def change_part(self, number, much):
        if not self.has_part(number) or not is_much(self.parts[number].kind, much):
            return WRONG_NUMBER
        part = self.parts[number]
        part.much = much
        return 0
