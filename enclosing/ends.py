"""The calls on intervals of doubles, and the exact reckoning behind them.

Every finite double is a whole number of units, a unit being the least denormal, 2^-1074. So an interval is
reckoned with as a pair of whole numbers of units, its lower and its upper end; an empty one is None. An
operation gives whole units outside of its exact ends, or at them, with no double in between: so the one
rounding to doubles that follows still finds the very best ones. Where operations follow one another, each goes
on from the rounded ends of the one ahead of it.
"""

REFUSED = -2
MOST_INTERVALS = 65536
MOST_POWER = 1024

ADD = 0
SUBTRACT = 1
MULTIPLY = 2
DIVIDE = 3
ROOT = 4
HULL = 5
COMMON = 6

SIGN = 0x8000000000000000
INFINITY = 0x7FF0000000000000
LARGEST = 0x7FEFFFFFFFFFFFFF
HIDDEN_BIT = 0x10000000000000
FRACTION_WIDTH = 52
PRECISION = 53

# 1 is 2^1074 units.
ONE_WIDTH = 1074

# Infinity is reckoned with as 2^3200 units. The largest double is below 2^2098 units, so that even the least
# denormal times 2^3200 units is past every double, and even the largest double by them is less than one unit.
FAR_WIDTH = 3200


def is_nan(bits):
    return bits % SIGN > INFINITY


def units_of(bits):
    magnitude = bits % SIGN
    exponent = magnitude >> FRACTION_WIDTH
    if magnitude == INFINITY:
        size = 1 << FAR_WIDTH
    elif exponent == 0:
        size = magnitude
    else:
        size = (HIDDEN_BIT + magnitude % HIDDEN_BIT) << (exponent - 1)
    return -size if bits >= SIGN else size


def interval_at(numbers, place):
    """The interval whose lower end stands at this place of a list of bits, or None if it's empty."""
    low = numbers[place]
    high = numbers[place + 1]
    if is_nan(low) or is_nan(high) or low == INFINITY or high == SIGN + INFINITY:
        return None
    low_units = units_of(low)
    high_units = units_of(high)
    if low_units > high_units:
        return None
    return (low_units, high_units)


def point_at(numbers, place):
    """The interval from the number at this place of a list of bits to itself, or None if it's not finite."""
    return interval_at([numbers[place], numbers[place]], 0)


def excess_width(size):
    """How many of the lowest binary digits a double of this size has no room for."""
    return max(0, size.bit_length() - PRECISION)


def bits_not_above(size):
    """The greatest finite double not above a size of 0 or more units."""
    excess = excess_width(size)
    # The hidden bit is added to the exponent: so a normal number's exponent is one more than its excess.
    return min((excess << FRACTION_WIDTH) + (size >> excess), LARGEST)


def bits_not_below(size):
    """The least double, infinity among them, not below a size of 0 or more units."""
    excess = excess_width(size)
    # Digits that round up to one digit more carry into the exponent, which is the next power of 2, or infinity.
    return min((excess << FRACTION_WIDTH) - (-size >> excess), INFINITY)


def lower_bits(units):
    if units < 0:
        return SIGN + bits_not_below(-units)
    return bits_not_above(units)


def upper_bits(units):
    if units < 0:
        return SIGN + bits_not_above(-units)
    return bits_not_below(units)


def negated(a):
    return (-a[1], -a[0])


def added(a, b):
    return (a[0] + b[0], a[1] + b[1])


def multiplied(a, b):
    products = [a[0] * b[0], a[0] * b[1], a[1] * b[0], a[1] * b[1]]
    return (min(products) >> ONE_WIDTH, -(-max(products) >> ONE_WIDTH))


def divided(a, b):
    if b[1] < 0:
        return divided_by_positive(negated(a), negated(b))
    if b[0] > 0:
        return divided_by_positive(a, b)
    return (-1 << FAR_WIDTH, 1 << FAR_WIDTH)


def divided_by_positive(a, b):
    # Infinity is the divisor only of an end that is rounded towards 0, so that what is left of it is 0.
    low_divisor = b[0] if a[0] < 0 else b[1]
    high_divisor = b[1] if a[1] < 0 else b[0]
    low = (a[0] << ONE_WIDTH) // low_divisor
    high = -((-a[1] << ONE_WIDTH) // high_divisor)
    return (low, high)


def whole_root(square):
    """The greatest whole number whose square is not above this one, by Newton's steps from above."""
    guess = 1 << ((square.bit_length() + 1) // 2)
    while guess * guess > square:
        guess = (guess + square // guess) // 2
    return guess


def root_bounds(units):
    """Units not above and not below the root of 0 or more units, close enough to round to its best doubles."""
    square = units << ONE_WIDTH
    # Digits behind those that a double keeps can't change the rounding, and finding them takes long.
    spare = max(0, square.bit_length() // 2 - PRECISION)
    low = whole_root(square >> (2 * spare)) << spare
    if low * low == square:
        return (low, low)
    return (low, low + (1 << spare))


def root_of(a):
    if a is None or a[1] < 0:
        return None
    return (root_bounds(max(0, a[0]))[0], root_bounds(a[1])[1])


def hull_of(a, b):
    if a is None:
        return b
    if b is None:
        return a
    return (min(a[0], b[0]), max(a[1], b[1]))


def common_part(a, b):
    low = max(a[0], b[0])
    high = min(a[1], b[1])
    return None if low > high else (low, high)


def combined(op, a, b):
    """What an op of two intervals (any but the root) gives in units, or None if it's empty."""
    if op == HULL:
        return hull_of(a, b)
    if a is None or b is None:
        return None
    if op == ADD:
        return added(a, b)
    if op == SUBTRACT:
        return added(a, negated(b))
    if op == MULTIPLY:
        return multiplied(a, b)
    if op == DIVIDE:
        return divided(a, b)
    return common_part(a, b)


def result_at(op, a, b, place):
    if op == ROOT:
        return root_of(interval_at(a, place))
    return combined(op, interval_at(a, place), interval_at(b, place))


def told(interval):
    """The two doubles that tell an interval, each end rounded outwards."""
    if interval is None:
        return [INFINITY, SIGN + INFINITY]
    return [lower_bits(interval[0]), upper_bits(interval[1])]


def told_alone(interval):
    """1 if an interval is empty, else 0; then the two doubles that tell it."""
    return [1 if interval is None else 0] + told(interval)


def step(op, a, b):
    """What an op of two intervals gives once its ends are doubles, for the next step to go on from."""
    return interval_at(told(combined(op, a, b)), 0)


def arith(op, n, a, b):
    """How many results are empty, then the n results, two doubles each; or a refusal."""
    if op < ADD or op > COMMON or n > MOST_INTERVALS:
        return [REFUSED]
    empty = 0
    ends = []
    for k in range(n):
        result = result_at(op, a, b, 2 * k)
        if result is None:
            empty = empty + 1
        ends.extend(told(result))
    return [empty] + ends


def sum_of(n, a):
    """Whether the sum of n intervals, rounded after each, is empty, then the sum; or a refusal."""
    if n > MOST_INTERVALS:
        return [REFUSED]
    total = (0, 0)
    for k in range(n):
        total = step(ADD, total, interval_at(a, 2 * k))
    return told_alone(total)


def dot(n, a, b):
    """Whether the sum of n products, each product and each sum rounded, is empty, then the sum; or a refusal."""
    if n > MOST_INTERVALS:
        return [REFUSED]
    total = (0, 0)
    for k in range(n):
        product = step(MULTIPLY, interval_at(a, 2 * k), interval_at(b, 2 * k))
        total = step(ADD, total, product)
    return told_alone(total)


def evaluate(n, c, x):
    """Whether a polynomial of x, by Horner's rule with each step rounded, is empty, then its value; or a refusal."""
    if n > MOST_POWER:
        return [REFUSED]
    variable = interval_at(x, 0)
    # With n of 0 no step looks at x, but where x is empty the value is too.
    if variable is None:
        return told_alone(None)
    value = point_at(c, n)
    for k in range(n - 1, -1, -1):
        value = step(ADD, step(MULTIPLY, value, variable), point_at(c, k))
    return told_alone(value)


def check(n, a):
    """How many of n intervals are empty; or a refusal."""
    if n > MOST_INTERVALS:
        return [REFUSED]
    empty = 0
    for k in range(n):
        if interval_at(a, 2 * k) is None:
            empty = empty + 1
    return [empty]
