"""An independent way of reckoning, for the tests: exact fractions, and Python's floats to round them.

An interval is a pair of exact ends, each a Fraction or an infinite float; an empty one is None. Nothing here
draws on the program.
"""

import math
import struct
from fractions import Fraction

INF = math.inf
EMPTY_BITS = [0x7FF0000000000000, 0xFFF0000000000000]


def bits(number):
    return struct.unpack("<Q", struct.pack("<d", number))[0]


def number(its_bits):
    return struct.unpack("<d", struct.pack("<Q", its_bits))[0]


def flat(*pairs):
    """The bits of pairs of floats, one behind another, as the calls take them."""
    return [bits(end) for pair in pairs for end in pair]


def infinite(end):
    # Not by math.isinf, which fails at a fraction past the largest double.
    return end in (INF, -INF)


def exact(end):
    return end if infinite(end) else Fraction(end)


def read(low_bits, high_bits):
    low = number(low_bits)
    high = number(high_bits)
    if math.isnan(low) or math.isnan(high) or low > high or low == INF or high == -INF:
        return None
    return (exact(low), exact(high))


def nearest(value):
    try:
        return float(value)
    except OverflowError:
        return INF if value > 0 else -INF


def rounded_down(value):
    found = nearest(value)
    if exact(found) > value or found == INF:
        found = math.nextafter(found, -INF)
    return found + 0.0


def rounded_up(value):
    return 0.0 - rounded_down(-value)


def outward(interval):
    if interval is None:
        return EMPTY_BITS
    return [bits(rounded_down(interval[0])), bits(rounded_up(interval[1]))]


def times(x, y):
    """A product of ends: an end of 0 stands for the number 0, so infinity is only what the other tends to."""
    if x == 0 or y == 0:
        return Fraction(0)
    if infinite(x) or infinite(y):
        return INF if (x > 0) == (y > 0) else -INF
    return x * y


def product(a, b):
    ends = [times(x, y) for x in a for y in b]
    return (min(ends), max(ends))


def inverse(end):
    return Fraction(0) if infinite(end) else 1 / end


def quotient(a, b):
    if b[0] <= 0 <= b[1]:
        return (-INF, INF)
    return product(a, (inverse(b[1]), inverse(b[0])))


def root_down(value):
    """The greatest double, as a Fraction, whose square is not above the value."""
    found = math.sqrt(float(value))
    while Fraction(found) ** 2 > value:
        found = math.nextafter(found, 0.0)
    while Fraction(math.nextafter(found, INF)) ** 2 <= value:
        found = math.nextafter(found, INF)
    return Fraction(found)


def root_up(value):
    if value == INF:
        return INF
    found = root_down(value)
    return found if found ** 2 == value else Fraction(math.nextafter(float(found), INF))


def root(a):
    if a is None or a[1] < 0:
        return None
    return (root_down(max(Fraction(0), a[0])), root_up(a[1]))


def hull(a, b):
    present = [interval for interval in (a, b) if interval is not None]
    if not present:
        return None
    return (min(interval[0] for interval in present), max(interval[1] for interval in present))


def common(a, b):
    low = max(a[0], b[0])
    high = min(a[1], b[1])
    return (low, high) if low <= high else None


def result(op, a, b):
    if op == 4:
        return root(a)
    if op == 5:
        return hull(a, b)
    if a is None or b is None:
        return None
    if op == 0:
        return (a[0] + b[0], a[1] + b[1])
    if op == 1:
        return (a[0] - b[1], a[1] - b[0])
    return {2: product, 3: quotient, 6: common}[op](a, b)


def arith(op, a, b):
    """What the call has to answer of lists of bits, when nothing is refused."""
    empty = 0
    ends = []
    for k in range(0, len(a), 2):
        found = result(op, read(a[k], a[k + 1]), read(b[k], b[k + 1]))
        empty += found is None
        ends += outward(found)
    return [empty] + ends
