"""Tests of arith: promise 1 as far as it speaks of it, and promise 2."""

import contextlib
import io
import math
import random
import unittest
from fractions import Fraction

import reckon
from enclosing.ends import arith
from reckon import EMPTY_BITS, EMPTY_PAIRS, INF, LARGEST, LEAST_NORMAL, MINUS_ZERO, MOST_DENORMAL, NAN, NANS, TINY
from reckon import down, draw_interval, flat, up

ADD, SUBTRACT, MULTIPLY, DIVIDE, ROOT, HULL, COMMON = range(7)
OPS = range(7)


def one(op, a, b=(1.0, 1.0)):
    return arith(op, 1, flat(a), flat(b))


class ArithCase(unittest.TestCase):
    def tells(self, op, a, b, expected):
        self.assertEqual(one(op, a, b), [0] + flat(expected), (op, a, b))

    def tells_empty(self, op, a, b=(1.0, 1.0)):
        self.assertEqual(one(op, a, b), [1] + EMPTY_BITS, (op, a, b))

    def agrees(self, op, a, b):
        """Holds a long list of intervals against the independent reckoning, a call's worth at a time."""
        for start in range(0, len(a), 16000):
            part_a = a[start:start + 16000]
            part_b = b[start:start + 16000]
            answer = arith(op, len(part_a) // 2, part_a, part_b)
            expected = reckon.arith(op, part_a, part_b)
            if answer != expected:
                self.fail(first_difference(op, part_a, part_b, answer, expected))


def first_difference(op, a, b, answer, expected):
    if len(answer) != len(expected):
        return f"op {op}: {len(answer)} numbers answered, {len(expected)} expected"
    for k in range(0, len(a), 2):
        if answer[k + 1:k + 3] != expected[k + 1:k + 3]:
            shown = [[reckon.number(end) for end in ends[k + shift:k + shift + 2]]
                     for ends, shift in ((a, 0), (b, 0), (answer, 1), (expected, 1))]
            return f"op {op}: a, b, answered, expected: {shown}"
    return f"op {op}: {answer[0]} empty answered, {expected[0]} expected"


class Ordinary(ArithCase):
    def test_exact_ends_stay_as_they_are(self):
        a = (1.0, 2.5)
        b = (-3.0, 4.0)
        self.tells(ADD, a, b, (-2.0, 6.5))
        self.tells(SUBTRACT, a, b, (-3.0, 5.5))
        self.tells(MULTIPLY, a, b, (-7.5, 10.0))
        self.tells(DIVIDE, (1.0, 3.0), (2.0, 4.0), (0.25, 1.5))
        self.tells(ROOT, (4.0, 6.25), b, (2.0, 2.5))
        self.tells(HULL, a, b, (-3.0, 4.0))
        self.tells(COMMON, a, b, (1.0, 2.5))

    def test_ends_that_are_no_doubles_are_rounded_outwards(self):
        tenth = (0.1, 0.1)
        fifth = (0.2, 0.2)
        self.tells(ADD, tenth, fifth, (0.3, up(0.3)))
        self.tells(ADD, (1.0, 1.0), (TINY, TINY), (1.0, up(1.0)))
        self.tells(ADD, (-1.0, -1.0), (TINY, TINY), (-1.0, up(-1.0)))
        self.tells(SUBTRACT, (1.0, 1.0), (TINY, TINY), (down(1.0), 1.0))
        self.tells(SUBTRACT, (-1.0, -1.0), (TINY, TINY), (down(-1.0), -1.0))
        self.tells(MULTIPLY, tenth, tenth, (down(0.1 * 0.1), 0.1 * 0.1))
        self.tells(DIVIDE, (1.0, 1.0), (3.0, 3.0), (1.0 / 3.0, up(1.0 / 3.0)))
        self.tells(DIVIDE, (-1.0, 1.0), (3.0, 3.0), (down(-1.0 / 3.0), up(1.0 / 3.0)))
        self.tells(ROOT, (2.0, 2.0), tenth, (down(math.sqrt(2.0)), math.sqrt(2.0)))
        self.tells(ROOT, (3.0, 3.0), tenth, (math.sqrt(3.0), up(math.sqrt(3.0))))

    def test_an_exact_end_beside_one_that_is_rounded(self):
        self.tells(ADD, (1.0, 1.0), (0.0, TINY), (1.0, up(1.0)))
        self.tells(DIVIDE, (1.0, 1.0), (2.0, 3.0), (1.0 / 3.0, 0.5))
        self.tells(ROOT, (2.0, 4.0), (1.0, 1.0), (down(math.sqrt(2.0)), 2.0))

    def test_rounding_carries_into_the_next_power_of_2(self):
        below_two = down(2.0)
        self.tells(ADD, (below_two, below_two), (TINY, TINY), (below_two, 2.0))
        self.tells(SUBTRACT, (-below_two, -below_two), (TINY, TINY), (-2.0, -below_two))

    def test_hull_and_common_part(self):
        self.tells(HULL, (1.0, 2.0), (5.0, 6.0), (1.0, 6.0))
        self.tells(HULL, (0.1, 9.0), (5.0, 6.0), (0.1, 9.0))
        self.tells(HULL, (-INF, 2.0), (5.0, INF), (-INF, INF))
        self.tells(COMMON, (1.0, 6.0), (5.0, 9.0), (5.0, 6.0))
        self.tells(COMMON, (-INF, 6.0), (5.0, INF), (5.0, 6.0))
        self.tells(COMMON, (-INF, INF), (-INF, INF), (-INF, INF))
        self.tells(COMMON, (2.0, 3.0), (3.0, 4.0), (3.0, 3.0))
        self.tells(COMMON, (-1.0, -0.0), (0.0, 4.0), (0.0, 0.0))
        self.tells(COMMON, (-INF, 1.0), (1.0, INF), (1.0, 1.0))
        self.tells_empty(COMMON, (1.0, 2.0), (3.0, 4.0))
        self.tells_empty(COMMON, (3.0, 4.0), (1.0, 2.0))
        self.tells_empty(COMMON, (1.0, 2.0), (up(2.0), 4.0))
        self.tells_empty(COMMON, (-INF, 0.0), (TINY, INF))

    def test_results_stand_in_order_behind_the_count(self):
        a = flat((1.0, 2.0), (2.0, 1.0), (3.0, 4.0))
        b = flat((10.0, 10.0), (20.0, 20.0), (30.0, 30.0))
        self.assertEqual(arith(ADD, 3, a, b), [1] + flat((11.0, 12.0)) + EMPTY_BITS + flat((33.0, 34.0)))


class Signs(ArithCase):
    def test_products_of_every_sign(self):
        positive, negative, mixed = (2.0, 3.0), (-5.0, -4.0), (-7.0, 6.0)
        self.tells(MULTIPLY, positive, positive, (4.0, 9.0))
        self.tells(MULTIPLY, positive, negative, (-15.0, -8.0))
        self.tells(MULTIPLY, positive, mixed, (-21.0, 18.0))
        self.tells(MULTIPLY, negative, positive, (-15.0, -8.0))
        self.tells(MULTIPLY, negative, negative, (16.0, 25.0))
        self.tells(MULTIPLY, negative, mixed, (-30.0, 35.0))
        self.tells(MULTIPLY, mixed, positive, (-21.0, 18.0))
        self.tells(MULTIPLY, mixed, negative, (-30.0, 35.0))
        self.tells(MULTIPLY, mixed, mixed, (-42.0, 49.0))

    def test_quotients_of_every_sign(self):
        positive, negative, mixed = (2.0, 4.0), (-4.0, -2.0), (-3.0, 5.0)
        self.tells(DIVIDE, positive, positive, (0.5, 2.0))
        self.tells(DIVIDE, positive, negative, (-2.0, -0.5))
        self.tells(DIVIDE, negative, positive, (-2.0, -0.5))
        self.tells(DIVIDE, negative, negative, (0.5, 2.0))
        self.tells(DIVIDE, mixed, positive, (-1.5, 2.5))
        self.tells(DIVIDE, mixed, negative, (-2.5, 1.5))

    def test_an_end_of_0_beside_an_infinite_one(self):
        self.tells(MULTIPLY, (0.0, 0.0), (-INF, INF), (0.0, 0.0))
        self.tells(MULTIPLY, (-INF, INF), (0.0, 0.0), (0.0, 0.0))
        self.tells(MULTIPLY, (0.0, 1.0), (2.0, INF), (0.0, INF))
        self.tells(MULTIPLY, (-1.0, 0.0), (2.0, INF), (-INF, 0.0))
        self.tells(MULTIPLY, (0.0, INF), (0.0, INF), (0.0, INF))
        self.tells(MULTIPLY, (-INF, 0.0), (0.0, INF), (-INF, 0.0))
        self.tells(MULTIPLY, (0.0, 0.0), (3.0, INF), (0.0, 0.0))
        self.tells(DIVIDE, (0.0, 0.0), (1.0, INF), (0.0, 0.0))
        self.tells(DIVIDE, (0.0, 0.0), (-INF, -1.0), (0.0, 0.0))
        self.tells(DIVIDE, (0.0, 1.0), (1.0, INF), (0.0, 1.0))

    def test_infinite_ends(self):
        self.tells(ADD, (-INF, 1.0), (LARGEST, LARGEST), (-INF, INF))
        self.tells(ADD, (-INF, 1.0), (2.0, 3.0), (-INF, 4.0))
        self.tells(ADD, (-INF, 1.0), (2.0, INF), (-INF, INF))
        self.tells(SUBTRACT, (1.0, INF), (1.0, INF), (-INF, INF))
        self.tells(SUBTRACT, (1.0, 2.0), (-INF, 5.0), (-4.0, INF))
        self.tells(MULTIPLY, (2.0, INF), (3.0, INF), (6.0, INF))
        self.tells(MULTIPLY, (2.0, INF), (-3.0, TINY), (-INF, INF))
        self.tells(MULTIPLY, (-INF, -2.0), (-INF, -3.0), (6.0, INF))
        self.tells(DIVIDE, (1.0, 2.0), (4.0, INF), (0.0, 0.5))
        self.tells(DIVIDE, (-2.0, -1.0), (4.0, INF), (-0.5, 0.0))
        self.tells(DIVIDE, (1.0, 2.0), (-INF, -4.0), (-0.5, 0.0))
        self.tells(DIVIDE, (1.0, INF), (1.0, INF), (0.0, INF))
        self.tells(DIVIDE, (8.0, INF), (1.0, 2.0), (4.0, INF))
        self.tells(DIVIDE, (-INF, -8.0), (-INF, -2.0), (0.0, INF))
        self.tells(DIVIDE, (-INF, INF), (LARGEST, INF), (-INF, INF))
        self.tells(DIVIDE, (LARGEST, INF), (LARGEST, LARGEST), (1.0, INF))
        self.tells(ROOT, (4.0, INF), (1.0, 1.0), (2.0, INF))
        self.tells(ROOT, (-INF, INF), (1.0, 1.0), (0.0, INF))


class EdgesOfDoubles(ArithCase):
    def test_denormal_ends(self):
        self.tells(ADD, (TINY, TINY), (TINY, MOST_DENORMAL), (2 * TINY, LEAST_NORMAL))
        self.tells(SUBTRACT, (LEAST_NORMAL, LEAST_NORMAL), (TINY, TINY), (MOST_DENORMAL, MOST_DENORMAL))
        self.tells(MULTIPLY, (MOST_DENORMAL, MOST_DENORMAL), (2.0, 2.0), (2 * MOST_DENORMAL, 2 * MOST_DENORMAL))
        self.tells(DIVIDE, (3 * TINY, 3 * TINY), (2.0, 2.0), (TINY, 2 * TINY))
        self.tells(DIVIDE, (-3 * TINY, -3 * TINY), (2.0, 2.0), (-2 * TINY, -TINY))
        self.tells(DIVIDE, (MOST_DENORMAL, MOST_DENORMAL), (TINY, TINY), (2.0 ** 52 - 1, 2.0 ** 52 - 1))
        self.tells(ROOT, (TINY, TINY), (1.0, 1.0), (2.0 ** -537, 2.0 ** -537))
        self.tells(HULL, (-TINY, TINY), (TINY, MOST_DENORMAL), (-TINY, MOST_DENORMAL))
        self.tells(COMMON, (-TINY, TINY), (TINY, MOST_DENORMAL), (TINY, TINY))
        self.agrees(ROOT, flat((2 * TINY, 3 * TINY), (7 * TINY, MOST_DENORMAL)), flat((1.0, 1.0), (1.0, 1.0)))

    def test_quotient_by_the_largest_doubles_is_denormal(self):
        self.tells(DIVIDE, (1.0, 1.0), (LARGEST, LARGEST), (2.0 ** -1024, 2.0 ** -1024 + TINY))
        self.tells(DIVIDE, (1.0, 1.0), (2.0 ** 1023, INF), (0.0, 2.0 ** -1023))

    def test_results_below_the_least_denormal(self):
        self.tells(MULTIPLY, (TINY, TINY), (TINY, TINY), (0.0, TINY))
        self.tells(MULTIPLY, (TINY, TINY), (-TINY, -TINY), (-TINY, 0.0))
        self.tells(MULTIPLY, (-TINY, TINY), (0.5, 0.5), (-TINY, TINY))
        self.tells(DIVIDE, (TINY, TINY), (2.0, 2.0), (0.0, TINY))
        self.tells(DIVIDE, (-TINY, -TINY), (2.0, 2.0), (-TINY, 0.0))
        self.tells(DIVIDE, (TINY, TINY), (-LARGEST, -LARGEST), (-TINY, 0.0))
        self.tells(DIVIDE, (TINY, TINY), (1.0, INF), (0.0, TINY))

    def test_results_past_the_largest_double(self):
        largest = (LARGEST, LARGEST)
        smallest = (-LARGEST, -LARGEST)
        self.tells(ADD, largest, largest, (LARGEST, INF))
        self.tells(ADD, smallest, smallest, (-INF, -LARGEST))
        self.tells(ADD, largest, (TINY, TINY), (LARGEST, INF))
        self.tells(ADD, smallest, (-TINY, -TINY), (-INF, -LARGEST))
        self.tells(ADD, largest, (0.0, 0.0), largest)
        self.tells(SUBTRACT, largest, smallest, (LARGEST, INF))
        self.tells(SUBTRACT, smallest, largest, (-INF, -LARGEST))
        self.tells(MULTIPLY, largest, largest, (LARGEST, INF))
        self.tells(MULTIPLY, largest, smallest, (-INF, -LARGEST))
        self.tells(MULTIPLY, (LARGEST, INF), (LARGEST, INF), (LARGEST, INF))
        self.tells(MULTIPLY, (LARGEST, INF), (-INF, -2.0), (-INF, -LARGEST))
        self.tells(MULTIPLY, (-LARGEST, LARGEST), (2.0, 2.0), (-INF, INF))
        self.tells(DIVIDE, (1.0, 1.0), (TINY, TINY), (LARGEST, INF))
        self.tells(DIVIDE, (1.0, 1.0), (-TINY, -TINY), (-INF, -LARGEST))
        self.tells(DIVIDE, (1.0, INF), (TINY, TINY), (LARGEST, INF))
        self.tells(DIVIDE, largest, (0.5, 1.0), (LARGEST, INF))

    def test_roots_of_the_largest_doubles(self):
        self.agrees(ROOT, flat((LARGEST, LARGEST), (down(LARGEST), INF)), flat((1.0, 1.0), (1.0, 1.0)))
        self.assertEqual(one(ROOT, (LARGEST, LARGEST)), [0] + flat((down(2.0 ** 512), 2.0 ** 512)))


class Zeros(ArithCase):
    def test_minus_0_handed_in_is_told_as_plus_0(self):
        zero = (-0.0, -0.0)
        for op in OPS:
            if op != DIVIDE:
                self.tells(op, zero, zero, (0.0, 0.0))
        self.tells(HULL, (-0.0, 1.0), (2.0, 3.0), (0.0, 3.0))
        self.tells(HULL, (-1.0, -0.0), (-3.0, -2.0), (-3.0, 0.0))
        self.tells(HULL, (-0.0, -0.0), (2.0, 1.0), (0.0, 0.0))
        self.tells(COMMON, (-0.0, 1.0), (-1.0, 3.0), (0.0, 1.0))
        self.tells(ADD, (-0.0, 1.0), (-0.0, 1.0), (0.0, 2.0))
        self.tells(DIVIDE, (-0.0, -0.0), (-2.0, -1.0), (0.0, 0.0))

    def test_plus_0_to_minus_0_is_the_number_0(self):
        self.tells(ADD, (0.0, -0.0), (1.0, 1.0), (1.0, 1.0))
        self.tells(HULL, (0.0, -0.0), (0.0, -0.0), (0.0, 0.0))
        self.tells(COMMON, (0.0, 0.0), (-0.0, -0.0), (0.0, 0.0))

    def test_no_rounding_gives_minus_0(self):
        for op, a, b in [(MULTIPLY, (TINY, TINY), (-TINY, -TINY)), (DIVIDE, (-TINY, -TINY), (3.0, 3.0)),
                         (MULTIPLY, (0.0, 0.0), (-1.0, -1.0)), (SUBTRACT, (1.0, 1.0), (1.0, 1.0)),
                         (ADD, (-1.0, 1.0), (1.0, 1.0)), (DIVIDE, (1.0, 1.0), (-INF, -1.0)),
                         (ROOT, (-0.0, 4.0), (1.0, 1.0)), (ROOT, (-1.0, -0.0), (1.0, 1.0))]:
            answer = one(op, a, b)
            self.assertIn(0, answer[1:])
            self.assertNotIn(MINUS_ZERO, answer)


class Empty(ArithCase):
    def test_of_an_empty_interval_the_result_is_empty(self):
        for empty in EMPTY_PAIRS:
            for op in (ADD, SUBTRACT, MULTIPLY, DIVIDE, COMMON):
                self.tells_empty(op, empty, (1.0, 2.0))
                self.tells_empty(op, (1.0, 2.0), empty)
                self.tells_empty(op, empty, empty)
                self.tells_empty(op, (-INF, INF), empty)
                self.tells_empty(op, (0.0, 0.0), empty)
            self.tells_empty(ROOT, empty)

    def test_the_hull_leaves_empty_intervals_out(self):
        for empty in EMPTY_PAIRS:
            self.tells(HULL, empty, (1.0, 2.0), (1.0, 2.0))
            self.tells(HULL, (1.0, 2.0), empty, (1.0, 2.0))
            self.tells(HULL, (-INF, INF), empty, (-INF, INF))
            for other in EMPTY_PAIRS:
                self.tells_empty(HULL, empty, other)

    def test_the_root_does_not_look_at_b(self):
        for empty in EMPTY_PAIRS:
            self.tells(ROOT, (4.0, 9.0), empty, (2.0, 3.0))

    def test_every_nan_counts(self):
        for nan in NANS:
            for pair in ([nan, reckon.bits(1.0)], [reckon.bits(-1.0), nan], [nan, nan]):
                self.assertEqual(arith(ADD, 1, pair, flat((1.0, 2.0))), [1] + EMPTY_BITS)
                self.assertEqual(arith(HULL, 1, pair, flat((1.0, 2.0))), [0] + flat((1.0, 2.0)))

    def test_empty_results_are_counted(self):
        a = flat(*EMPTY_PAIRS, (1.0, 2.0), (-1.0, 2.0), (-2.0, -1.0))
        count = len(a) // 2
        b = flat((1.5, 3.0)) * count
        empty = len(EMPTY_PAIRS)
        for op, expected in ((ADD, empty), (SUBTRACT, empty), (MULTIPLY, empty), (DIVIDE, empty),
                             (ROOT, empty + 1), (HULL, 0), (COMMON, empty + 1)):
            self.assertEqual(arith(op, count, a, b)[0], expected)


class QuotientAndRoot(ArithCase):
    def test_a_divisor_that_holds_0_gives_the_whole_line(self):
        dividends = [(1.0, 2.0), (-2.0, -1.0), (-1.0, 1.0), (0.0, 0.0), (-0.0, -0.0), (0.0, 1.0), (-1.0, 0.0),
                     (TINY, TINY), (-INF, INF), (1.0, INF), (-INF, -1.0)]
        divisors = [(-1.0, 1.0), (0.0, 1.0), (-1.0, 0.0), (-0.0, 1.0), (-1.0, -0.0), (0.0, 0.0), (-0.0, -0.0),
                    (-0.0, 0.0), (0.0, -0.0), (-TINY, TINY), (0.0, TINY), (-TINY, 0.0), (0.0, INF), (-INF, 0.0),
                    (-INF, INF)]
        for a in dividends:
            for b in divisors:
                self.tells(DIVIDE, a, b, (-INF, INF))

    def test_an_empty_dividend_stays_empty_beside_0(self):
        self.tells_empty(DIVIDE, (2.0, 1.0), (-1.0, 1.0))
        self.tells_empty(DIVIDE, (NAN, 1.0), (0.0, 0.0))

    def test_a_divisor_just_beside_0(self):
        self.tells(DIVIDE, (TINY, 2 * TINY), (TINY, TINY), (1.0, 2.0))
        self.tells(DIVIDE, (TINY, 2 * TINY), (-TINY, -TINY), (-2.0, -1.0))

    def test_a_root_leaves_out_what_is_below_0(self):
        self.tells(ROOT, (-4.0, 9.0), (1.0, 1.0), (0.0, 3.0))
        self.tells(ROOT, (-INF, 9.0), (1.0, 1.0), (0.0, 3.0))
        self.tells(ROOT, (-4.0, 0.0), (1.0, 1.0), (0.0, 0.0))
        self.tells(ROOT, (-4.0, -0.0), (1.0, 1.0), (0.0, 0.0))
        self.tells(ROOT, (-TINY, TINY), (1.0, 1.0), (0.0, 2.0 ** -537))
        self.tells_empty(ROOT, (-9.0, -4.0))
        self.tells_empty(ROOT, (-INF, -TINY))

    def test_roots_of_squares_and_of_their_neighbours(self):
        for number in (1.0, 3.0, 2.0 ** 26 - 1, 94906265.0, 1.5 * 2.0 ** 400, 2.0 ** -500):
            square = number * number
            self.tells(ROOT, (square, square), (1.0, 1.0), (number, number))
            near = [(down(square), down(square)), (up(square), up(square))]
            self.agrees(ROOT, flat(*near), flat(*near))


class Refusals(ArithCase):
    def test_an_op_that_is_none_of_those_told(self):
        for op in (-2147483648, -7, -1, 7, 8, 2147483647):
            self.assertEqual(arith(op, 1, flat((1.0, 2.0)), flat((1.0, 2.0))), [-2])
            self.assertEqual(arith(op, 0, [], []), [-2])

    def test_n_above_65536(self):
        for n in (65537, 65538, 131072, 4294967295):
            for op in OPS:
                self.assertEqual(arith(op, n, [], []), [-2])

    def test_both_at_once(self):
        for op in (-2147483648, -1, 7, 2147483647):
            self.assertEqual(arith(op, 65537, [], []), [-2])
            self.assertEqual(arith(op, 4294967295, [], []), [-2])

    def test_n_of_0(self):
        for op in OPS:
            self.assertEqual(arith(op, 0, [], []), [0])

    def test_the_greatest_n_that_the_lists_allow(self):
        a = [end for k in range(8000) for end in flat((k - 4000.0, k - 3999.0))]
        b = [end for k in range(8000) for end in flat((k + 1.0, k + 3.0))]
        for op in OPS:
            answer = arith(op, 8000, a, b)
            self.assertEqual(len(answer), 16001)
            self.agrees(op, a, b)

    def test_n_of_65536_is_not_refused(self):
        # Longer lists than are handed in, but the bound that the document names is checked at its very edge.
        ends = flat((1.0, 2.0)) * 65536
        self.assertEqual(arith(COMMON, 65536, ends, ends), [0] + ends)


class Calls(ArithCase):
    def test_what_is_handed_in_is_as_it_was(self):
        a = flat((-0.0, 2.0), (2.0, 1.0), (NAN, 1.0), (-5.0, -4.0))
        b = flat((3.0, 4.0), (-0.0, 0.0), (1.0, 2.0), (INF, INF))
        for op in list(OPS) + [-1, 7]:
            a_before = list(a)
            b_before = list(b)
            arith(op, 4, a, b)
            self.assertEqual((a, b), (a_before, b_before))

    def test_one_list_may_be_both(self):
        ends = flat((1.0, 2.0))
        self.assertEqual(arith(SUBTRACT, 1, ends, ends), [0] + flat((-1.0, 1.0)))
        self.assertEqual(ends, flat((1.0, 2.0)))

    def test_nothing_is_kept_from_one_call_to_the_next(self):
        for op in OPS:
            first = one(op, (1.0, 2.0), (2.0, 1.0))
            expected = list(first)
            first.append(7)
            first[0] = 9
            one(HULL, (2.0, 1.0), (NAN, 1.0))
            self.assertEqual(one(op, (1.0, 2.0), (2.0, 1.0)), expected)
            self.assertEqual(arith(op, 70000, [], []), [-2])

    def test_answers_are_lists_of_whole_numbers(self):
        for op in list(OPS) + [7]:
            answer = one(op, (-1.0, 2.0), (NAN, 0.5))
            self.assertIs(type(answer), list)
            self.assertEqual({type(number) for number in answer}, {int})

    def test_nothing_is_printed(self):
        printed = io.StringIO()
        with contextlib.redirect_stdout(printed), contextlib.redirect_stderr(printed):
            for op in list(OPS) + [7]:
                one(op, (-1.0, 2.0), (NAN, 0.5))
        self.assertEqual(printed.getvalue(), "")


class Grid(ArithCase):
    """Every pair of intervals whose ends are among some numbers at the edges, empty ones with them."""

    ENDS = [-INF, -LARGEST, -3.0, -TINY, -0.0, 0.0, TINY, MOST_DENORMAL, 0.7, LARGEST, INF, NAN]

    def test_all_pairs(self):
        intervals = [flat((low, high)) for low in self.ENDS for high in self.ENDS]
        a = [end for first in intervals for _ in intervals for end in first]
        b = [end for _ in intervals for second in intervals for end in second]
        for op in OPS:
            self.agrees(op, a, b)


class Drawn(ArithCase):
    """Many drawn pairs of intervals, the same ones each time."""

    def test_drawn_pairs(self):
        for op in OPS:
            source = random.Random(1000 + op)
            a = []
            b = []
            for _ in range(16000):
                a += draw_interval(source)
                b += draw_interval(source)
            self.agrees(op, a, b)

    def test_numbers_within_give_results_within(self):
        """By the words alone: x op y lies in the result, and an end moved inwards by a double would lose one."""
        source = random.Random(77)
        reckoners = {ADD: lambda x, y: x + y, SUBTRACT: lambda x, y: x - y, MULTIPLY: lambda x, y: x * y,
                     DIVIDE: lambda x, y: x / y}
        for _ in range(4000):
            op = source.choice((ADD, SUBTRACT, MULTIPLY, DIVIDE))
            a = sorted(source.uniform(-3.0, 3.0) for _ in range(2))
            b = sorted(source.uniform(-3.0, 3.0) for _ in range(2))
            if op == DIVIDE and b[0] <= 0.0 <= b[1]:
                b = [1.0, 1.0 + abs(b[0])]
            low, high = [reckon.number(end) for end in one(op, a, b)[1:]]
            found = [reckoners[op](Fraction(x), Fraction(y)) for x in a for y in b]
            found.append(reckoners[op]((Fraction(a[0]) + Fraction(a[1])) / 2, (Fraction(b[0]) + Fraction(b[1])) / 2))
            self.assertLessEqual(Fraction(low), min(found))
            self.assertGreaterEqual(Fraction(high), max(found))
            self.assertGreater(Fraction(up(low)), min(found))
            self.assertLess(Fraction(down(high)), max(found))


if __name__ == "__main__":
    unittest.main()
