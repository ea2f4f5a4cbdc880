"""Whether a net has one solution, told by how its parts join its nodes.

The laws of a net are as many as its unknown volts and amperes, once one
node's law is left out, which follows from the other nodes' laws. So there is
one solution just if the same net with all sources at 0 has none but zeros.
There the resistors' watts come to 0 in all, and none of them is below 0: no
resistor carries anything, and nodes that resistors and sources of volts join
have the same volts. What may still differ from zeros is just this:

- the volts of nodes that neither of these two kinds joins to node 0;
- a current that goes round in a ring of sources of volts alone.

How much each part has doesn't matter for either.
"""

from resistornets.wiring import RESISTOR, SOURCE_OF_VOLTS


def parts_of_kind(net, kind):
    return [part for part in net.parts if part.kind == kind]


# groups has a number for each node, the same for nodes that are joined.
def joined(groups, a, b):
    return [groups[a] if group == groups[b] else group for group in groups]


def has_one_solution(net):
    groups = list(range(net.node_count))
    for part in parts_of_kind(net, SOURCE_OF_VOLTS):
        # No resistor has joined anything yet, so this source closes a ring of sources.
        if groups[part.a] == groups[part.b]:
            return False
        groups = joined(groups, part.a, part.b)
    for part in parts_of_kind(net, RESISTOR):
        groups = joined(groups, part.a, part.b)
    return all([group == groups[0] for group in groups])
