"""How a fraction is told: its sign, what's divided and by what, in lowest terms.

160 bytes are enough for all that a net can come to. What its volts are divided
by is a sum of products, each of the ohms of some of the 24 parts: at most
2 ** 24 times 10 ** 144. What's divided is at most 24 such sums, each times
10 ** 6 volts or amperes. Watts are a difference of two such, times another:
below 10 ** 320, and 160 bytes go up to 10 ** 385.
"""

BYTES = 160


def greatest_common_divisor(x, y):
    while y != 0:
        rest = x % y
        x = y
        y = rest
    return x


def bytes_of(number):
    row = []
    for place in range(BYTES):
        row.append(number % 256)
        number //= 256
    return row


def told(fraction):
    divided = abs(fraction[0])
    divisor = abs(fraction[1])
    common = greatest_common_divisor(divided, divisor)
    # Either of the two may be below 0, and both may.
    sign = 1 if fraction[0] * fraction[1] < 0 else 0
    return [sign] + bytes_of(divided // common) + bytes_of(divisor // common)
