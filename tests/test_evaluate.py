"""Tests of evaluate: promise 1 as far as it speaks of eval, and promise 4."""

import contextlib
import io
import math
import random
import unittest
from fractions import Fraction

import reckon
from enclosing.ends import evaluate
from reckon import EMPTY_BITS, EMPTY_PAIRS, INF, LARGEST, LEAST_NORMAL, MINUS_ZERO, MOST_DENORMAL, NAN, NANS, TINY
from reckon import bits, draw_interval, draw_near, flat, up

ABOVE_ONE = up(1.0)
# Ways for x to be no empty interval.
SPANS = [(1.0, 1.0), (0.0, 0.0), (-0.0, -0.0), (0.0, -0.0), (-2.0, 3.0), (2.0, 3.0), (-3.0, -2.0), (0.0, 1.0),
         (-1.0, 0.0), (TINY, TINY), (LARGEST, LARGEST), (-INF, INF), (1.0, INF), (-INF, -1.0), (LARGEST, INF)]
NOT_FINITE = [bits(INF), bits(-INF)] + NANS


def coefficient_bits(numbers):
    return [bits(number) for number in numbers]


def value_of(numbers, x):
    """Of coefficients as the calls take them, c[0] first."""
    return evaluate(len(numbers) - 1, coefficient_bits(numbers), flat(x))


class EvaluateCase(unittest.TestCase):
    def tells(self, numbers, x, expected):
        self.assertEqual(value_of(numbers, x), [0] + flat(expected), (numbers, x))

    def tells_at(self, numbers, number, expected):
        self.tells(numbers, (number, number), expected)

    def tells_empty(self, numbers, x):
        self.assertEqual(value_of(numbers, x), [1] + EMPTY_BITS, (numbers, x))

    def agrees(self, c, x):
        shown = [[reckon.number(end) for end in ends[:40]] for ends in (c, x)]
        self.assertEqual(evaluate(len(c) - 1, c, x), reckon.evaluate(c, x), shown)


class OneCoefficient(EvaluateCase):
    def test_it_is_the_number_to_itself(self):
        for number in (1.0, -1.0, 0.1, -0.1, TINY, -TINY, MOST_DENORMAL, LARGEST, -LARGEST, 0.0):
            for x in SPANS:
                self.tells([number], x, (number, number))

    def test_minus_0_is_told_as_plus_0(self):
        for x in SPANS:
            self.assertEqual(value_of([-0.0], x), [0, 0, 0])

    def test_x_is_looked_at_all_the_same(self):
        for x in EMPTY_PAIRS:
            for number in (1.0, 0.0, -0.0, LARGEST):
                self.tells_empty([number], x)


class Ordinary(EvaluateCase):
    def test_values_that_are_exact(self):
        self.tells_at([7.0, 5.0], 3.0, (22.0, 22.0))
        self.tells_at([1.0, 2.0, 3.0], 10.0, (321.0, 321.0))
        self.tells_at([1.0, 2.0, 3.0, 4.0], -10.0, (-3719.0, -3719.0))
        self.tells_at([0.5, 0.0, -2.0], 0.5, (0.0, 0.0))

    def test_the_last_coefficient_goes_with_the_highest_power(self):
        self.tells_at([0.0, 0.0, 1.0], 3.0, (9.0, 9.0))
        self.tells_at([1.0, 0.0, 0.0], 3.0, (1.0, 1.0))
        self.tells_at([0.0, 1.0, 0.0], 3.0, (3.0, 3.0))

    def test_x_with_ends_of_either_sign(self):
        line = [1.0, 2.0]
        self.tells(line, (2.0, 3.0), (5.0, 7.0))
        self.tells(line, (-3.0, -2.0), (-5.0, -3.0))
        self.tells(line, (-3.0, 2.0), (-5.0, 5.0))
        self.tells([1.0, -2.0], (-3.0, 2.0), (-3.0, 7.0))
        self.tells([1.0, 1.0, 1.0], (2.0, 3.0), (7.0, 13.0))
        self.tells([1.0, 1.0, 1.0], (-3.0, -2.0), (3.0, 7.0))

    def test_x_with_an_end_of_0(self):
        for zero in (0.0, -0.0):
            self.tells([4.0, 5.0, 6.0], (zero, zero), (4.0, 4.0))
            self.tells([4.0, 5.0, 6.0], (zero, 1.0), (4.0, 15.0))
            self.tells([4.0, 5.0, 6.0], (-1.0, zero), (-1.0, 5.0))
            self.tells([zero, 5.0], (zero, 0.0), (0.0, 0.0))
            self.tells([zero, -5.0], (0.0, zero), (0.0, 0.0))
        self.assertEqual(value_of([-0.0, -0.0, -0.0], (-0.0, -0.0)), [0, 0, 0])
        self.assertNotIn(MINUS_ZERO, value_of([0.0, -1.0], (0.0, 1.0)))


class Horner(EvaluateCase):
    def test_each_product_is_rounded(self):
        square = 1.0 + 2.0 ** -51
        # Exactly, it is 2^-104.
        self.tells_at([-square, 0.0, 1.0], ABOVE_ONE, (0.0, 2.0 ** -52))
        self.tells_at([square, 0.0, -1.0], ABOVE_ONE, (-(2.0 ** -52), 0.0))
        self.tells_at([-square, ABOVE_ONE], ABOVE_ONE, (0.0, 2.0 ** -52))
        self.tells_at([-LARGEST, LARGEST], 2.0, (0.0, INF))

    def test_each_sum_is_rounded_and_not_only_the_last(self):
        # Exactly, it is the least denormal.
        self.tells_at([-1.0, TINY, 1.0], 1.0, (0.0, 2.0 ** -52))
        self.tells_at([1.0, TINY, -1.0], 1.0, (0.0, 2.0 ** -53))
        self.tells_at([TINY, -1.0, 1.0], 1.0, (TINY, TINY))
        self.tells_at([2.0 ** -53, 2.0 ** -53, 1.0], 1.0, (1.0, 1.0 + 2.0 ** -51))
        self.tells_at([1.0, 2.0 ** -53, 2.0 ** -53], 1.0, (up(1.0), up(1.0)))

    def test_a_rounded_sum_is_what_is_multiplied(self):
        # Rounded once, at the end, each would be two neighbouring doubles.
        self.tells_at([0.0, TINY, 1.0], 1.25, (1.5625, 1.5625 + 2 * 2.0 ** -52))
        self.tells_at([0.0, TINY, 1.0], -1.25, (1.5625 - 2 * 2.0 ** -52, 1.5625))
        self.tells_at([0.0, 0.0, TINY, 1.0], 1.25, (1.953125, 1.953125 + 3 * 2.0 ** -52))

    def test_powers_of_x_are_not_reckoned_apart(self):
        # A square by itself would be 0 to 4, and x times x plus x -4 to 5.
        self.tells([0.0, 0.0, 1.0], (-1.0, 2.0), (-2.0, 4.0))
        self.tells([0.0, 1.0, 1.0], (-2.0, 1.0), (-4.0, 2.0))
        self.tells([0.0, -1.0, 1.0], (0.0, 1.0), (-1.0, 0.0))
        self.tells([0.0, 0.0, 0.0, 1.0], (-2.0, 1.0), (-8.0, 4.0))
        self.tells([0.0, 0.0, 0.0, 0.0, 1.0], (-2.0, 1.0), (-8.0, 16.0))

    def test_leading_coefficients_of_0_change_nothing(self):
        for x in SPANS:
            expected = value_of([3.0, 0.1], x)
            self.assertEqual(value_of([3.0, 0.1, 0.0], x), expected)
            self.assertEqual(value_of([3.0, 0.1, -0.0, 0.0, -0.0], x), expected)


class Edges(EvaluateCase):
    def test_infinite_ends(self):
        self.tells([1.0, 2.0], (-INF, INF), (-INF, INF))
        self.tells([1.0, 2.0], (3.0, INF), (7.0, INF))
        self.tells([1.0, -2.0], (3.0, INF), (-INF, -5.0))
        self.tells([1.0, 2.0], (-INF, 3.0), (-INF, 7.0))
        self.tells([1.0, 0.0, 1.0], (2.0, INF), (5.0, INF))
        self.tells([1.0, 0.0, 1.0], (-INF, -2.0), (5.0, INF))
        self.tells([1.0, 0.0, 1.0], (-INF, 2.0), (-INF, INF))
        self.tells([0.0, TINY], (1.0, INF), (TINY, INF))

    def test_0_times_an_infinite_end(self):
        for x in ((-INF, INF), (1.0, INF), (-INF, -1.0), (0.0, INF), (-INF, 0.0), (LARGEST, INF)):
            for zero in (0.0, -0.0):
                self.tells([1.5, zero], x, (1.5, 1.5))
                self.tells([1.5, zero, zero, zero], x, (1.5, 1.5))
        self.tells([1.0, 1.0], (0.0, INF), (1.0, INF))
        self.tells([0.0, 1.0, 1.0], (0.0, INF), (0.0, INF))
        self.tells([0.0, -1.0, 0.0], (0.0, INF), (-INF, 0.0))

    def test_values_past_the_largest_double_on_the_way(self):
        self.tells_at([-LARGEST, LARGEST], 2.0, (0.0, INF))
        self.tells_at([LARGEST, LARGEST], -2.0, (-INF, 0.0))
        self.tells_at([-LARGEST, LARGEST, LARGEST], 1.0, (0.0, INF))
        self.tells_at([-1.0, 0.0, LARGEST, LARGEST], 1.0, (math.nextafter(LARGEST, 0.0), INF))
        self.tells_at([0.0, 0.0, LARGEST], 2.0, (LARGEST, INF))
        # What has become infinite is not brought back by a small x.
        self.tells_at([0.0, LARGEST, LARGEST], 0.5, (LARGEST / 2, INF))
        self.tells_at([0.0, -LARGEST, -LARGEST, 0.0], 0.5, (-INF, -LARGEST / 2))
        self.tells_at([1.0, LARGEST, LARGEST], 0.0, (1.0, 1.0))

    def test_largest_values_that_are_not_passed(self):
        self.tells_at([LARGEST, 0.0], 2.0, (LARGEST, LARGEST))
        self.tells_at([0.0, LARGEST], 1.0, (LARGEST, LARGEST))
        self.tells_at([0.0, 1.0], -LARGEST, (-LARGEST, -LARGEST))
        self.tells_at([LARGEST, TINY], TINY, (LARGEST, INF))

    def test_denormal_values(self):
        self.tells_at([TINY, TINY, TINY], 1.0, (3 * TINY, 3 * TINY))
        self.tells_at([0.0, TINY], 0.5, (0.0, TINY))
        self.tells_at([0.0, -TINY], 0.5, (-TINY, 0.0))
        self.tells_at([TINY, TINY], 0.5, (TINY, 2 * TINY))
        self.tells_at([0.0, 0.0, TINY], 0.5, (0.0, TINY))
        self.tells_at([0.0, 0.0, 1.0], TINY, (0.0, TINY))
        self.tells_at([0.0, 0.0, 1.0], 2.0 ** -537, (TINY, TINY))
        self.tells_at([TINY, 1.0], MOST_DENORMAL, (LEAST_NORMAL, LEAST_NORMAL))
        self.tells_at([1.0, 0.0, 1.0], TINY, (1.0, up(1.0)))


class Empty(EvaluateCase):
    def test_where_x_is_empty_the_value_is(self):
        for x in EMPTY_PAIRS:
            for numbers in ([1.0, 2.0], [0.0, 0.0], [1.0, 2.0, 3.0], [0.0] * 9, [LARGEST, -LARGEST]):
                self.tells_empty(numbers, x)
        for nan in NANS:
            for x in ([nan, bits(1.0)], [bits(-1.0), nan], [nan, nan]):
                for numbers in ([1.0], [1.0, 2.0], [0.0, 0.0, 0.0]):
                    self.assertEqual(evaluate(len(numbers) - 1, coefficient_bits(numbers), x), [1] + EMPTY_BITS)

    def test_where_a_coefficient_is_not_finite_the_value_is_empty(self):
        for wrong in NOT_FINITE:
            for count in (1, 2, 3, 6):
                for place in range(count):
                    c = coefficient_bits([0.0, 1.0, -2.0, 0.5, LARGEST, -0.0][:count])
                    c[place] = wrong
                    for x in SPANS:
                        self.assertEqual(evaluate(count - 1, c, flat(x)), [1] + EMPTY_BITS, (c, x))

    def test_both_at_once(self):
        for wrong in NOT_FINITE:
            for x in EMPTY_PAIRS:
                self.assertEqual(evaluate(0, [wrong], flat(x)), [1] + EMPTY_BITS)
                self.assertEqual(evaluate(1, [wrong, wrong], flat(x)), [1] + EMPTY_BITS)

    def test_a_coefficient_that_is_not_finite_among_many(self):
        for wrong in NOT_FINITE:
            for place in (0, 1, 512, 1023, 1024):
                c = coefficient_bits([0.5] * 1025)
                c[place] = wrong
                self.assertEqual(evaluate(1024, c, flat((0.0, 0.5))), [1] + EMPTY_BITS)


class Refusals(EvaluateCase):
    def test_n_above_1024(self):
        for n in (1025, 1026, 2048, 8000, 65536, 65537, 2147483648, 4294967295):
            for x in SPANS + EMPTY_PAIRS:
                self.assertEqual(evaluate(n, [], flat(x)), [-2])

    def test_n_of_1024_is_not_refused(self):
        ones = coefficient_bits([1.0] * 1025)
        self.assertEqual(evaluate(1024, ones, flat((1.0, 1.0))), [0] + flat((1025.0, 1025.0)))
        self.assertEqual(evaluate(1024, ones, flat((-1.0, -1.0))), [0] + flat((1.0, 1.0)))
        self.assertEqual(evaluate(1024, ones, flat((INF, 1.0))), [1] + EMPTY_BITS)
        power = coefficient_bits([0.0] * 1024 + [1.0])
        self.assertEqual(evaluate(1024, power, flat((0.5, 0.5))), [0] + flat((2.0 ** -1024, 2.0 ** -1024)))
        self.assertEqual(evaluate(1024, power, flat((2.0, 2.0))), [0] + flat((LARGEST, INF)))
        source = random.Random(9)
        for size in (0, -10, 5):
            c = [bits(source.uniform(-1.0, 1.0)) for _ in range(1025)]
            self.agrees(c, flat((0.1, 0.9)))
            self.agrees(c, draw_near(source, size))

    def test_n_just_below_1024(self):
        self.assertEqual(evaluate(1023, coefficient_bits([1.0] * 1024), flat((1.0, 1.0))), [0] + flat((1024.0, 1024.0)))


class Calls(EvaluateCase):
    POLYNOMIALS = [([-0.0], (-0.0, 1.0)), ([1.0, -0.0, 0.1], (-0.1, 0.3)), ([1.0, 2.0], (2.0, 1.0)),
                   ([1.0, NAN, 2.0], (1.0, 2.0)), ([INF], (1.0, 2.0)), ([3.0], (NAN, INF)),
                   ([LARGEST, LARGEST], (2.0, INF))]

    def test_what_is_handed_in_is_as_it_was(self):
        for numbers, span in self.POLYNOMIALS:
            c = coefficient_bits(numbers)
            x = flat(span)
            before = (list(c), list(x))
            evaluate(len(c) - 1, c, x)
            self.assertEqual((c, x), before)
        c = []
        x = flat((-0.0, 1.0))
        evaluate(1025, c, x)
        self.assertEqual((c, x), ([], flat((-0.0, 1.0))))

    def test_one_list_may_be_both(self):
        both = flat((1.0, 2.0))
        self.assertEqual(evaluate(1, both, both), [0] + flat((3.0, 5.0)))
        self.assertEqual(both, flat((1.0, 2.0)))

    def test_nothing_is_kept_from_one_call_to_the_next(self):
        for numbers, x in self.POLYNOMIALS:
            first = value_of(numbers, x)
            expected = list(first)
            first[0] = 9
            first.append(7)
            value_of([1.0, 2.0, 3.0], (5.0, INF))
            value_of([1.0, 2.0], (2.0, 1.0))
            self.assertEqual(value_of(numbers, x), expected)
            self.assertEqual(evaluate(1025, [], flat(x)), [-2])
            self.assertEqual(value_of([0.0], (1.0, 2.0)), [0, 0, 0])

    def test_answers_are_lists_of_whole_numbers(self):
        answers = [value_of(numbers, x) for numbers, x in self.POLYNOMIALS]
        for answer in answers:
            self.assertEqual(len(answer), 3)
        for answer in answers + [evaluate(1025, [], flat((1.0, 2.0)))]:
            self.assertIs(type(answer), list)
            self.assertEqual({type(number) for number in answer}, {int})

    def test_nothing_is_printed(self):
        printed = io.StringIO()
        with contextlib.redirect_stdout(printed), contextlib.redirect_stderr(printed):
            for numbers, x in self.POLYNOMIALS:
                value_of(numbers, x)
            evaluate(1025, [], flat((1.0, 2.0)))
        self.assertEqual(printed.getvalue(), "")


class Drawn(EvaluateCase):
    """Many drawn polynomials, the same ones each time."""

    # Sizes of the coefficients and of x: ordinary, small and large x, denormal values and values at the largest.
    SIZES = [(0, 0), (0, -20), (0, 20), (-1050, 0), (-1020, -5), (1010, 0), (-1000, 400), (1000, -400)]

    def draw_coefficients(self, source, count, size):
        return [draw_near(source, size)[0] for _ in range(count)]

    def test_all_lines_and_parabolas_at_the_edges(self):
        numbers = coefficient_bits([-LARGEST, -1.0, -TINY, -0.0, 0.1, LARGEST, INF])
        spans = [flat(x) for x in SPANS + [(-1.0, TINY), (-LARGEST, 0.1), (2.0, 1.0), (INF, NAN)]]
        for x in spans:
            for first in numbers:
                for second in numbers:
                    self.agrees([first, second], x)
                    for third in numbers:
                        self.agrees([first, second, third], x)

    def test_drawn_polynomials_of_any_kind(self):
        source = random.Random(51)
        for _ in range(5000):
            c = [draw_interval(source)[0] for _ in range(source.randrange(1, 6))]
            self.agrees(c, draw_interval(source))

    def test_drawn_polynomials_of_coefficients_that_are_near_one_another(self):
        source = random.Random(52)
        for c_size, x_size in self.SIZES:
            for _ in range(500):
                c = self.draw_coefficients(source, source.randrange(1, 10), c_size)
                self.agrees(c, draw_near(source, x_size))

    def test_the_drawn_polynomials_show_each_rounding(self):
        source = random.Random(53)
        products_show = 0
        sums_show = 0
        for _ in range(500):
            c = self.draw_coefficients(source, source.randrange(3, 10), 0)
            x = draw_near(source, 0)
            products_show += evaluate(len(c) - 1, c, x) != reckon.evaluate_with_exact_products(c, x)
            sums_show += evaluate(len(c) - 1, c, x) != reckon.evaluate_with_exact_sums(c, x)
        self.assertGreater(products_show, 100)
        self.assertGreater(sums_show, 100)

    def test_exact_values_lie_within(self):
        """By the words alone: whatever is picked from x, the polynomial's value there is in what's told."""
        source = random.Random(54)
        for _ in range(1500):
            c = self.draw_coefficients(source, source.randrange(1, 9), 0)
            x = draw_near(source, -2)
            low, high = [Fraction(reckon.number(end)) for end in evaluate(len(c) - 1, c, x)[1:]]
            ends = [Fraction(reckon.number(end)) for end in x]
            for picked in (ends[0], ends[1], (ends[0] + ends[1]) / 2):
                value = sum(Fraction(reckon.number(c[k])) * picked ** k for k in range(len(c)))
                self.assertLessEqual(low, value)
                self.assertGreaterEqual(high, value)


if __name__ == "__main__":
    unittest.main()
