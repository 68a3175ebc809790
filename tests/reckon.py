"""What the tests share: an independent way of reckoning, and the intervals that are tried.

The reckoning is by exact fractions, with Python's floats to round them. An interval is a pair of exact ends,
each a Fraction or an infinite float; an empty one is None. Nothing here draws on the program.
"""

import math
import struct
from fractions import Fraction

INF = math.inf
NAN = math.nan
TINY = 5e-324
LEAST_NORMAL = 2.2250738585072014e-308
MOST_DENORMAL = LEAST_NORMAL - TINY
LARGEST = 1.7976931348623157e308

EMPTY_BITS = [0x7FF0000000000000, 0xFFF0000000000000]
MINUS_ZERO = 0x8000000000000000
NANS = [0x7FF0000000000001, 0x7FF8000000000000, 0x7FFFFFFFFFFFFFFF,
        0xFFF0000000000001, 0xFFF8000000000000, 0xFFFFFFFFFFFFFFFF]

EMPTY_PAIRS = [
    (NAN, 1.0), (1.0, NAN), (NAN, NAN), (-INF, NAN), (NAN, INF),
    (2.0, 1.0), (TINY, 0.0), (0.0, -TINY), (INF, -INF), (1.0, -1.0),
    (INF, INF), (INF, 1.0), (INF, NAN),
    (-INF, -INF), (1.0, -INF), (NAN, -INF),
]

EDGES = [0.0, -0.0, TINY, -TINY, MOST_DENORMAL, LEAST_NORMAL, 1.0, -1.0, LARGEST, -LARGEST, INF, -INF, NAN]


def bits(number):
    return struct.unpack("<Q", struct.pack("<d", number))[0]


def number(its_bits):
    return struct.unpack("<d", struct.pack("<Q", its_bits))[0]


def up(value):
    return math.nextafter(value, INF)


def down(value):
    return math.nextafter(value, -INF)


def flat(*pairs):
    """The bits of pairs of floats, one behind another, as the calls take them."""
    return [bits(end) for pair in pairs for end in pair]


def infinite(end):
    # Not by math.isinf, which fails at a fraction past the largest double.
    return end in (INF, -INF)


def exact(end):
    return end if infinite(end) else Fraction(end)


def read(low_bits, high_bits):
    low = number(low_bits)
    high = number(high_bits)
    if math.isnan(low) or math.isnan(high) or low > high or low == INF or high == -INF:
        return None
    return (exact(low), exact(high))


def nearest(value):
    try:
        return float(value)
    except OverflowError:
        return INF if value > 0 else -INF


def rounded_down(value):
    found = nearest(value)
    if exact(found) > value or found == INF:
        found = math.nextafter(found, -INF)
    return found + 0.0


def rounded_up(value):
    return 0.0 - rounded_down(-value)


def outward(interval):
    if interval is None:
        return EMPTY_BITS
    return [bits(rounded_down(interval[0])), bits(rounded_up(interval[1]))]


def plus(x, y):
    """A sum of ends that aren't opposite infinities; each may be a fraction past the largest double."""
    if infinite(x) or infinite(y):
        return x if infinite(x) else y
    return x + y


def total_of(a, b):
    return (plus(a[0], b[0]), plus(a[1], b[1]))


def times(x, y):
    """A product of ends: an end of 0 stands for the number 0, so infinity is only what the other tends to."""
    if x == 0 or y == 0:
        return Fraction(0)
    if infinite(x) or infinite(y):
        return INF if (x > 0) == (y > 0) else -INF
    return x * y


def product(a, b):
    ends = [times(x, y) for x in a for y in b]
    return (min(ends), max(ends))


def inverse(end):
    return Fraction(0) if infinite(end) else 1 / end


def quotient(a, b):
    if b[0] <= 0 <= b[1]:
        return (-INF, INF)
    return product(a, (inverse(b[1]), inverse(b[0])))


def root_down(value):
    """The greatest double, as a Fraction, whose square is not above the value."""
    found = math.sqrt(float(value))
    while Fraction(found) ** 2 > value:
        found = math.nextafter(found, 0.0)
    while Fraction(math.nextafter(found, INF)) ** 2 <= value:
        found = math.nextafter(found, INF)
    return Fraction(found)


def root_up(value):
    if value == INF:
        return INF
    found = root_down(value)
    return found if found ** 2 == value else Fraction(math.nextafter(float(found), INF))


def root(a):
    if a is None or a[1] < 0:
        return None
    return (root_down(max(Fraction(0), a[0])), root_up(a[1]))


def hull(a, b):
    present = [interval for interval in (a, b) if interval is not None]
    if not present:
        return None
    return (min(interval[0] for interval in present), max(interval[1] for interval in present))


def common(a, b):
    low = max(a[0], b[0])
    high = min(a[1], b[1])
    return (low, high) if low <= high else None


def result(op, a, b):
    if op == 4:
        return root(a)
    if op == 5:
        return hull(a, b)
    if a is None or b is None:
        return None
    if op == 0:
        return total_of(a, b)
    if op == 1:
        return total_of(a, (-b[1], -b[0]))
    return {2: product, 3: quotient, 6: common}[op](a, b)


def arith(op, a, b):
    """What the call has to answer of lists of bits, when nothing is refused."""
    empty = 0
    ends = []
    for k in range(0, len(a), 2):
        found = result(op, read(a[k], a[k + 1]), read(b[k], b[k + 1]))
        empty += found is None
        ends += outward(found)
    return [empty] + ends


def step(op, a, b):
    """A step on the way to a result, its ends rounded to doubles ahead of the next one."""
    return read(*outward(result(op, a, b)))


def alone(interval):
    """How a call answers that tells one interval."""
    return [int(interval is None)] + outward(interval)


def intervals(ends):
    return [read(ends[k], ends[k + 1]) for k in range(0, len(ends), 2)]


def added_up(terms, add):
    total = (Fraction(0), Fraction(0))
    for term in terms:
        total = add(0, total, term)
    return alone(total)


def products(a, b, multiply):
    return [multiply(2, first, second) for first, second in zip(intervals(a), intervals(b))]


def sum_of(a):
    return added_up(intervals(a), step)


def sum_rounded_once(a):
    """What would be wrong to answer: the exact sum, rounded at the end alone."""
    return added_up(intervals(a), result)


def dot(a, b):
    return added_up(products(a, b, step), step)


def dot_of_exact_products(a, b):
    """What would be wrong to answer: the products taken exactly, the sums alone rounded."""
    return added_up(products(a, b, result), step)


def dot_of_exact_sums(a, b):
    """What would be wrong to answer: the products rounded, and then only the whole sum."""
    return added_up(products(a, b, step), result)


def check(a):
    return [intervals(a).count(None)]


def horner(c, x, multiply, add):
    """c[n] x^n + ... + c[0] of lists of bits, by the steps that are handed in."""
    variable = read(*x)
    numbers = [number(its_bits) for its_bits in c]
    if variable is None or not all(math.isfinite(value) for value in numbers):
        return alone(None)
    points = [(Fraction(value), Fraction(value)) for value in numbers]
    value = points[-1]
    for coefficient in reversed(points[:-1]):
        value = add(0, multiply(2, value, variable), coefficient)
    return alone(value)


def evaluate(c, x):
    return horner(c, x, step, step)


def evaluate_with_exact_products(c, x):
    """What would be wrong to answer: the products taken exactly, the sums alone rounded."""
    return horner(c, x, result, step)


def evaluate_with_exact_sums(c, x):
    """What would be wrong to answer: the products alone rounded, and the last sum."""
    return horner(c, x, step, result)


def draw_end(source):
    kind = source.randrange(6)
    if kind == 0:
        return bits(source.choice(EDGES))
    if kind == 1:
        return source.getrandbits(64)
    if kind == 2:
        return source.getrandbits(1) << 63 | source.getrandbits(source.randrange(1, 54))
    if kind == 3:
        return bits(float(source.randrange(-20, 21)))
    if kind == 4:
        return bits(source.uniform(-2.0, 2.0))
    # Within 60 binary places of one another, so that sums are seldom exact and seldom wholly one-sided.
    return bits(math.ldexp(source.uniform(-1.0, 1.0), source.randrange(-30, 31)))


def draw_interval(source):
    ends = [draw_end(source), draw_end(source)]
    kind = source.randrange(8)
    if kind == 0:
        return ends
    if kind == 1:
        return [ends[0], ends[0]]
    return sorted(ends, key=number)


def draw_near(source, exponent):
    """An interval, never empty, whose ends are about 2 to this exponent in size, and finite up to 1014."""
    ends = [math.ldexp(source.uniform(-1.0, 1.0), exponent + source.randrange(-10, 11)) for _ in range(2)]
    if source.randrange(3) == 0:
        ends[1] = ends[0]
    return flat(sorted(ends))


def draw_list(source, length, exponent):
    """The ends of so many intervals, near an exponent, or of any kind where that is None."""
    ends = []
    for _ in range(length):
        ends += draw_interval(source) if exponent is None else draw_near(source, exponent)
    return ends
