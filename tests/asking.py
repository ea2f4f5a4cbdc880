"""What the tests share: calls written in words, their answers one by one, and the laws as the document writes them."""

from fractions import Fraction
from math import gcd

from resistornets.nets import answers

NUMBERS = {
    "begin": 0, "nodes": 1, "part": 2, "change": 3, "solve": 4,
    "volts": 5, "amperes": 6, "watts": 7, "between": 8,
}
WITH_A_FRACTION = ("volts", "amperes", "watts", "between")

BEGIN = ("begin",)
SOLVE = ("solve",)
OHMS, VOLTS, AMPERES = 0, 1, 2
LOWEST, HIGHEST = -2147483648, 2147483647


def flat(calls):
    numbers = []
    for call in calls:
        numbers.append(NUMBERS[call[0]])
        numbers.extend(call[1:])
    return numbers


def split(told):
    """The answers, one list each, from the one list that is given back."""
    parts, at = [], 0
    while at < len(told):
        end = at + 1 + told[at]
        if told[at] < 1 or end > len(told):
            raise AssertionError(f"the count at {at} doesn't fit: {told}")
        parts.append(told[at + 1:end])
        at = end
    return parts


def pair(fraction):
    return (fraction.numerator, fraction.denominator)


def read_fraction(numbers):
    """What 321 numbers tell, as (what's divided with its sign, by what), if they tell it as the document says."""
    if len(numbers) != 321 or not all(type(number) is int and 0 <= number <= 255 for number in numbers):
        raise AssertionError(f"321 numbers from 0 to 255 were expected: {numbers}")
    sign, divided = numbers[0], int.from_bytes(bytes(numbers[1:161]), "little")
    divisor = int.from_bytes(bytes(numbers[161:]), "little")
    if sign > 1 or divisor == 0 or gcd(divided, divisor) != 1 or (sign == 1 and divided == 0):
        raise AssertionError(f"not a fraction in lowest terms: {sign} {divided} {divisor}")
    return (-divided if sign else divided, divisor)


def read(call, answer):
    """A number alone, or the pair of a fraction, which is never taken for a refusal's number."""
    if call[0] in WITH_A_FRACTION and answer[0] == 0:
        return read_fraction(answer[1:])
    if len(answer) != 1:
        raise AssertionError(f"{call}: a number alone was expected: {answer}")
    if call[0] in WITH_A_FRACTION and answer[0] not in (-1, -3, -4):
        raise AssertionError(f"{call}: not a refusal's number: {answer}")
    return answer[0]


def ask(*calls):
    """What each call answers: a number, or a fraction's pair."""
    parts = split(answers(flat(calls)))
    if len(parts) != len(calls):
        raise AssertionError(f"{len(calls)} calls, {len(parts)} answers")
    return [read(call, part) for call, part in zip(calls, parts)]


def laying(node_count, parts):
    return [BEGIN, ("nodes", node_count)] + [("part",) + tuple(part) for part in parts]


def ask_net(node_count, parts, *calls):
    """What calls answer in a net of these parts, each of which must be taken."""
    laid = laying(node_count, parts)
    told = ask(*laid, *calls)
    if told[:len(laid)] != [0, 0] + list(range(len(parts))):
        raise AssertionError(f"the net was not taken: {told[:len(laid)]}")
    return told[len(laid):]


def laws(node_count, parts):
    """The laws as rows: a factor for each node's volts and each part's amperes, then what they come to."""
    width = node_count + len(parts) + 1
    rows = [[Fraction(0)] * width for law in range(1 + node_count + len(parts))]
    rows[0][0] = Fraction(1)
    for number, (kind, a, b, much) in enumerate(parts):
        amperes = node_count + number
        rows[1 + a][amperes] += 1
        rows[1 + b][amperes] -= 1
        row = rows[1 + node_count + number]
        if kind == AMPERES:
            row[amperes], row[-1] = Fraction(1), Fraction(-much)
        else:
            row[a], row[b] = Fraction(1), Fraction(-1)
            if kind == OHMS:
                row[amperes] = Fraction(-much)
            else:
                row[-1] = Fraction(much)
    return rows


def solution(node_count, parts):
    """Each node's volts and each part's amperes by elimination over the laws; None if there isn't just one choice."""
    rows = laws(node_count, parts)
    unknowns = len(rows[0]) - 1
    for column in range(unknowns):
        lead = next((k for k in range(column, len(rows)) if rows[k][column]), None)
        if lead is None:
            return None
        rows[column], rows[lead] = rows[lead], rows[column]
        for k in range(column + 1, len(rows)):
            if rows[k][column]:
                factor = rows[k][column] / rows[column][column]
                rows[k] = [x - factor * y if y else x for x, y in zip(rows[k], rows[column])]
    if any(row[-1] for row in rows[unknowns:]):
        return None
    found = [Fraction(0)] * unknowns
    for k in reversed(range(unknowns)):
        known = sum(x * y for x, y in zip(rows[k][k + 1:-1], found[k + 1:]) if x)
        found[k] = (rows[k][-1] - known) / rows[k][k]
    return found[:node_count], found[node_count:]


def drawn_much(draw, kind, muches):
    much = draw.choice(muches)
    return much if kind == OHMS else draw.choice((much, -much, 0))


def drawn_net(draw, node_count, part_count, muches):
    """Parts of all kinds that have one solution: a tree of resistors and sources of volts, and more beside it."""
    nodes = draw.sample(range(node_count), node_count)
    ends = [(nodes[k], nodes[draw.randrange(k)]) for k in range(1, node_count)]
    parts = [(draw.choice((OHMS, OHMS, VOLTS)),) + tuple(draw.sample(both, 2)) for both in ends]
    while len(parts) < part_count:
        parts.append((draw.choice((OHMS, OHMS, AMPERES)),) + tuple(draw.sample(nodes, 2)))
    draw.shuffle(parts)
    return [part + (drawn_much(draw, part[0], muches),) for part in parts]
