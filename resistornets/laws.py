"""The laws of a net as rows of whole numbers, which its solution keeps to.

Unknown are each node's volts and, behind them, the amperes of each source of
volts. A row has a factor for each unknown, and last what all of it comes to.

The amperes of a resistor are a's volts less b's by its ohms, which needn't be
whole. So the law of a node, that what flows from it comes to 0, is taken
times the ohms of every resistor that ends there. Node 0's law follows from
those of the other nodes: what flows from all nodes together is always 0. In
its place stands that node 0 has 0 volts.
"""

from resistornets.wiring import RESISTOR, SOURCE_OF_VOLTS


# By the number of each source of volts: where its amperes stand among the unknowns.
def places_of_amperes(net):
    places = {}
    for number, part in enumerate(net.parts):
        if part.kind == SOURCE_OF_VOLTS:
            places[number] = net.node_count + len(places)
    return places


def empty_row(net, places):
    return [0] * (net.node_count + len(places) + 1)


def law_of_ground(net, places):
    row = empty_row(net, places)
    row[0] = 1
    return row


def law_of_source(net, places, number):
    part = net.parts[number]
    row = empty_row(net, places)
    row[part.a] = 1
    row[part.b] = -1
    row[-1] = part.much
    return row


def ohms_at(net, node):
    ohms = 1
    for part in net.parts:
        if part.kind == RESISTOR and node in (part.a, part.b):
            ohms *= part.much
    return ohms


def law_of_node(net, places, node):
    row = empty_row(net, places)
    ohms = ohms_at(net, node)
    for number, part in enumerate(net.parts):
        if node in (part.a, part.b):
            # What flows from a through a part flows into b.
            times = ohms if node == part.a else -ohms
            if part.kind == RESISTOR:
                row[part.a] += times // part.much
                row[part.b] -= times // part.much
            elif part.kind == SOURCE_OF_VOLTS:
                row[places[number]] += times
            else:
                # These flow from b to a; being known, they stand on the other side, where that sign turns.
                row[-1] += times * part.much
    return row


def law_rows(net):
    places = places_of_amperes(net)
    rows = [law_of_ground(net, places)]
    for node in range(1, net.node_count):
        rows.append(law_of_node(net, places, node))
    for number in places:
        rows.append(law_of_source(net, places, number))
    return rows
