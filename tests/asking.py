"""What the tests share: calls written in words, and their answers one by one."""

from resistornets.nets import answers

NUMBERS = {
    "begin": 0, "nodes": 1, "part": 2, "change": 3, "solve": 4,
    "volts": 5, "amperes": 6, "watts": 7, "between": 8,
}

BEGIN = ("begin",)
SOLVE = ("solve",)
OHMS, VOLTS, AMPERES = 0, 1, 2
LOWEST, HIGHEST = -2147483648, 2147483647


def flat(calls):
    numbers = []
    for call in calls:
        numbers.append(NUMBERS[call[0]])
        numbers.extend(call[1:])
    return numbers


def split(told):
    """The answers, one list each, from the one list that is given back."""
    parts, at = [], 0
    while at < len(told):
        end = at + 1 + told[at]
        if told[at] < 1 or end > len(told):
            raise AssertionError(f"the count at {at} doesn't fit: {told}")
        parts.append(told[at + 1:end])
        at = end
    return parts


def ask(*calls):
    """The first number of each answer, where none tells more than that."""
    parts = split(answers(flat(calls)))
    if len(parts) != len(calls):
        raise AssertionError(f"{len(calls)} calls, {len(parts)} answers")
    for part in parts:
        if len(part) != 1:
            raise AssertionError(f"a number alone was expected: {part}")
    return [part[0] for part in parts]


def ask_net(node_count, parts, *calls):
    """What calls answer in a net of these parts, each of which must be taken."""
    laid = [BEGIN, ("nodes", node_count)] + [("part",) + tuple(part) for part in parts]
    told = ask(*laid, *calls)
    if told[:len(laid)] != [0, 0] + list(range(len(parts))):
        raise AssertionError(f"the net was not taken: {told[:len(laid)]}")
    return told[len(laid):]
