"""Tests of dot: promise 1 as far as it speaks of it, and what promise 3 says of it."""

import contextlib
import io
import random
import unittest
from fractions import Fraction

import reckon
from enclosing.ends import arith, dot, sum_of
from reckon import EMPTY_BITS, EMPTY_PAIRS, INF, LARGEST, LEAST_NORMAL, MINUS_ZERO, MOST_DENORMAL, NAN, NANS, TINY
from reckon import bits, down, draw_list, flat, up

ONE = (1.0, 1.0)
ABOVE_ONE = up(1.0)


def dotted(a, b):
    return dot(len(a), flat(*a), flat(*b))


def points(numbers):
    return [(number, number) for number in numbers]


class DotCase(unittest.TestCase):
    def tells(self, a, b, expected):
        """Of the intervals, and of each pair the other way round, which is the same product."""
        self.assertEqual(dotted(a, b), [0] + flat(expected), (a, b))
        self.assertEqual(dotted(b, a), [0] + flat(expected), (b, a))

    def tells_points(self, a, b, expected):
        self.tells(points(a), points(b), expected)

    def tells_empty(self, a, b):
        self.assertEqual(dotted(a, b), [1] + EMPTY_BITS, (a, b))
        self.assertEqual(dotted(b, a), [1] + EMPTY_BITS, (b, a))

    def agrees(self, a, b):
        shown = [[reckon.number(end) for end in ends[:40]] for ends in (a, b)]
        self.assertEqual(dot(len(a) // 2, a, b), reckon.dot(a, b), shown)


class Few(DotCase):
    def test_of_none_it_is_0_to_0_and_not_empty(self):
        self.assertEqual(dot(0, [], []), [0, 0, 0])

    def test_one_pair_alone_is_its_product(self):
        self.tells([(1.0, 2.5)], [(-3.0, 4.0)], (-7.5, 10.0))
        self.tells([(2.0, 3.0)], [(4.0, 5.0)], (8.0, 15.0))
        self.tells([(-3.0, -2.0)], [(4.0, 5.0)], (-15.0, -8.0))
        self.tells([(-5.0, -4.0)], [(-3.0, -2.0)], (8.0, 15.0))
        self.tells([(-7.0, 6.0)], [(-7.0, 6.0)], (-42.0, 49.0))
        self.tells([(0.1, 0.1)], [(0.1, 0.1)], (down(0.1 * 0.1), 0.1 * 0.1))
        self.tells([(-0.1, -0.1)], [(0.1, 0.1)], (-0.1 * 0.1, up(-0.1 * 0.1)))

    def test_one_pair_alone_with_an_end_of_minus_0(self):
        for zero in ((-0.0, -0.0), (0.0, -0.0), (-0.0, 0.0), (0.0, 0.0)):
            for other in (ONE, (-1.0, -1.0), (-2.0, 3.0), (-INF, INF), (-0.0, -0.0)):
                self.tells([zero], [other], (0.0, 0.0))
        self.tells([(-0.0, 1.0)], [(-2.0, -1.0)], (-2.0, 0.0))
        self.tells([(-1.0, -0.0)], [(-2.0, -1.0)], (0.0, 2.0))

    def test_sums_of_products_that_are_exact(self):
        self.tells([(1.0, 2.0), (3.0, 4.0)], [(10.0, 20.0), (100.0, 200.0)], (310.0, 840.0))
        self.tells([(-1.0, 2.0), (3.0, 3.0), (0.5, 1.0)], [(4.0, 4.0), (-1.0, 1.0), (-2.0, -2.0)], (-9.0, 10.0))

    def test_an_interval_goes_with_the_one_at_its_own_place(self):
        self.tells_points([1.0, 10.0, 100.0], [2.0, 3.0, 5.0], (532.0, 532.0))
        self.tells_points([1.0, 10.0, 100.0], [5.0, 3.0, 2.0], (235.0, 235.0))


class OneAfterAnother(DotCase):
    def test_each_product_is_rounded_ahead_of_being_added(self):
        square = 1.0 + 2.0 ** -51
        # Exactly, what's left is 2^-104.
        self.tells_points([ABOVE_ONE, -square], [ABOVE_ONE, 1.0], (0.0, 2.0 ** -52))
        self.tells_points([-square, ABOVE_ONE], [1.0, ABOVE_ONE], (0.0, 2.0 ** -52))
        # Exactly, what's left is nothing.
        self.tells_points([ABOVE_ONE, -ABOVE_ONE], [ABOVE_ONE, ABOVE_ONE], (-(2.0 ** -52), 2.0 ** -52))
        self.tells_points([-ABOVE_ONE, ABOVE_ONE], [ABOVE_ONE, ABOVE_ONE], (-(2.0 ** -52), 2.0 ** -52))

    def test_a_last_product_is_rounded_too(self):
        self.tells_points([-LARGEST, LARGEST], [1.0, 2.0], (0.0, INF))
        self.tells_points([1.0, -1.0, ABOVE_ONE], [1.0, 1.0, ABOVE_ONE], (1.0 + 2.0 ** -51, 1.0 + 3 * 2.0 ** -52))
        self.tells_points([-1.0, ABOVE_ONE], [1.0, ABOVE_ONE], (2.0 ** -51, 3 * 2.0 ** -52))

    def test_each_sum_is_rounded_and_not_only_the_last(self):
        # Each product is a double, and so, exactly, is each of these sums.
        self.tells_points([1.0, TINY, -1.0], [1.0, 1.0, 1.0], (0.0, 2.0 ** -52))
        self.tells_points([2.0, TINY, -0.5], [0.5, 2.0, 2.0], (0.0, 2.0 ** -52))
        self.tells_points([2.0, 2.0 ** -50, 2.0 ** -50], [0.5, 0.125, 0.125], (1.0, 1.0 + 2.0 ** -51))

    def test_the_first_product_is_the_first_to_be_added(self):
        ones = [1.0, 1.0, 1.0]
        self.tells_points([1.0, TINY, -1.0], ones, (0.0, 2.0 ** -52))
        self.tells_points([-1.0, TINY, 1.0], ones, (0.0, 2.0 ** -53))
        self.tells_points([1.0, -1.0, TINY], ones, (TINY, TINY))
        self.tells_points([TINY, -1.0, 1.0], ones, (0.0, 2.0 ** -53))
        self.tells_points([2.0 ** -53, 2.0 ** -53, 1.0], ones, (up(1.0), up(1.0)))

    def test_no_two_products_are_taken_together_ahead_of_the_sum_so_far(self):
        ones = [1.0] * 4
        self.tells_points([1.0, 2.0 ** -53, 1.0, 2.0 ** -53], ones, (2.0, 2.0 + 2.0 ** -50))
        self.tells_points([2.0 ** 53, 1.0, -(2.0 ** 53), 1.0], ones, (1.0, 3.0))

    def test_it_is_the_sum_of_what_arith_tells_of_the_products(self):
        source = random.Random(40)
        for exponent in (None, 0, 507, -530):
            for _ in range(300):
                count = source.randrange(0, 9)
                a = draw_list(source, count, exponent)
                b = draw_list(source, count, exponent)
                products = arith(2, count, a, b)[1:]
                self.assertEqual(dot(count, a, b), sum_of(count, products))


class Edges(DotCase):
    def test_0_times_an_infinite_end(self):
        self.tells([(0.0, 0.0)], [(-INF, INF)], (0.0, 0.0))
        self.tells([(0.0, 0.0), (2.0, 3.0)], [(-INF, INF), (5.0, 5.0)], (10.0, 15.0))
        self.tells([(2.0, 3.0), (-0.0, 0.0)], [(5.0, 5.0), (7.0, INF)], (10.0, 15.0))
        self.tells([(0.0, 1.0)], [(2.0, INF)], (0.0, INF))
        self.tells([(-1.0, 0.0), (1.0, 1.0)], [(2.0, INF), (4.0, 4.0)], (-INF, 4.0))
        self.tells([(0.0, INF), (1.0, 1.0)], [(0.0, INF), (4.0, 4.0)], (4.0, INF))
        self.tells([(-INF, 0.0), (1.0, 1.0)], [(0.0, INF), (4.0, 4.0)], (-INF, 4.0))

    def test_infinite_ends(self):
        self.tells([(2.0, INF), (1.0, 1.0)], [(3.0, INF), (-6.0, -6.0)], (0.0, INF))
        self.tells([(2.0, INF), (-INF, -1.0)], [(3.0, INF), (1.0, 1.0)], (-INF, INF))
        self.tells([(-INF, -2.0), (1.0, 1.0)], [(-INF, -3.0), (1.0, 2.0)], (7.0, INF))
        self.tells([(2.0, INF), (1.0, 1.0)], [(-3.0, TINY), (1.0, 1.0)], (-INF, INF))
        self.tells([(TINY, INF), (1.0, 1.0)], [(TINY, TINY), (1.0, 1.0)], (1.0, INF))

    def test_products_below_the_least_denormal(self):
        self.tells_points([TINY], [TINY], (0.0, TINY))
        self.tells_points([TINY], [-TINY], (-TINY, 0.0))
        self.tells_points([TINY, TINY], [TINY, TINY], (0.0, 2 * TINY))
        self.tells_points([TINY, TINY], [TINY, -TINY], (-TINY, TINY))
        self.tells_points([TINY, 1.0], [0.5, 1.0], (1.0, up(1.0)))
        self.tells_points([TINY] * 5, [0.5] * 5, (0.0, 5 * TINY))
        self.tells_points([TINY] * 5, [-0.5] * 5, (-5 * TINY, 0.0))
        self.tells_points([1e-200, -1.0], [1e-200, 1.0], (-1.0, up(-1.0)))

    def test_denormal_products(self):
        self.tells_points([MOST_DENORMAL, TINY], [1.0, 1.0], (LEAST_NORMAL, LEAST_NORMAL))
        self.tells_points([LEAST_NORMAL, 3 * TINY], [0.5, 0.5], (LEAST_NORMAL / 2 + TINY, LEAST_NORMAL / 2 + 2 * TINY))
        self.tells_points([2.0 ** -537, 2.0 ** -537], [2.0 ** -537, -(2.0 ** -537)], (0.0, 0.0))

    def test_products_past_the_largest_double(self):
        self.tells_points([LARGEST], [LARGEST], (LARGEST, INF))
        self.tells_points([LARGEST], [-LARGEST], (-INF, -LARGEST))
        self.tells_points([LARGEST, LARGEST], [2.0, -1.0], (0.0, INF))
        self.tells_points([LARGEST, LARGEST, 3.0], [2.0, -1.0, 1.0], (3.0, INF))
        self.tells_points([LARGEST, LARGEST], [2.0, -2.0], (-INF, INF))
        self.tells_points([2.0 ** 600, 2.0 ** 600], [2.0 ** 600, -(2.0 ** 600)], (-INF, INF))
        self.tells_points([LARGEST, LARGEST, LARGEST, -LARGEST], [-2.0, 1.0, 1.0, 0.0], (-INF, LARGEST))

    def test_sums_of_products_past_the_largest_double(self):
        self.tells_points([LARGEST, LARGEST, -LARGEST], [1.0, 1.0, 1.0], (0.0, INF))
        self.tells_points([2.0 ** 512, 2.0 ** 512, -LARGEST], [2.0 ** 511, 2.0 ** 511, 1.0], (0.0, INF))
        self.tells_points([-LARGEST, -TINY, LARGEST, LARGEST], [1.0] * 4, (-INF, LARGEST))

    def test_no_answer_has_a_minus_0(self):
        for a, b in [([1.0, -1.0], [1.0, 1.0]), ([-TINY], [TINY]), ([-0.0, 0.0], [1.0, -1.0]), ([TINY], [-0.5])]:
            answer = dotted(points(a), points(b))
            self.assertIn(0, answer[1:])
            self.assertNotIn(MINUS_ZERO, answer)


class Empty(DotCase):
    def test_where_an_interval_is_empty_the_result_is(self):
        others = [(1.0, 2.0), (-INF, INF), (0.0, 0.0), (LARGEST, LARGEST)]
        for empty in EMPTY_PAIRS:
            for place in range(len(others) + 1):
                with_empty = others[:place] + [empty] + others[place:]
                for beside in ((1.0, 2.0), (0.0, 0.0), (-0.0, -0.0), (-INF, INF), empty):
                    self.tells_empty(with_empty, others[:place] + [beside] + others[place:])

    def test_one_pair_alone_with_an_empty_interval(self):
        for empty in EMPTY_PAIRS:
            for beside in ((1.0, 2.0), (0.0, 0.0), (-INF, INF), (2.0, 1.0)):
                self.tells_empty([empty], [beside])
        for nan in NANS:
            for ends in ([nan, bits(1.0)], [bits(-1.0), nan], [nan, nan]):
                self.assertEqual(dot(1, ends, flat(ONE)), [1] + EMPTY_BITS)
                self.assertEqual(dot(1, flat(ONE), ends), [1] + EMPTY_BITS)

    def test_several_empty_ones_are_told_as_one(self):
        self.tells_empty([(2.0, 1.0), ONE, (NAN, 1.0)], [ONE, (INF, -INF), (NAN, NAN)])

    def test_an_empty_one_among_many(self):
        for place in (0, 1, 3999, 7998, 7999):
            pairs = [(1.0, 2.0)] * 8000
            pairs[place] = (2.0, 1.0)
            self.tells_empty(pairs, [(0.0, 0.0)] * 8000)


class Refusals(DotCase):
    def test_n_above_65536(self):
        for n in (65537, 65538, 131072, 2147483648, 4294967295):
            self.assertEqual(dot(n, [], []), [-2])

    def test_the_greatest_n_that_the_lists_allow(self):
        self.tells([(float(k), k + 1.0) for k in range(8000)], [(2.0, 2.0)] * 8000, (63992000.0, 64008000.0))
        source = random.Random(6)
        self.agrees(draw_list(source, 8000, 0), draw_list(source, 8000, 0))

    def test_n_of_65536_is_not_refused(self):
        # Longer lists than are handed in, but the bound that the document names is checked at its very edge.
        ends = flat((1.0, 2.0)) * 65536
        self.assertEqual(dot(65536, ends, ends), [0] + flat((65536.0, 262144.0)))


class Calls(DotCase):
    LISTS = [([], []), ([(-0.0, 2.0)], [(1.0, 2.0)]), ([(1.0, 2.0), (TINY, 0.1)], [(-0.0, -0.0), (0.1, 0.3)]),
             ([(2.0, 1.0), (1.0, 2.0)], [(1.0, 2.0), (1.0, 2.0)]), ([(1.0, 2.0)], [(NAN, INF)]),
             ([(LARGEST, LARGEST), (LARGEST, INF)], [(2.0, 2.0), (-1.0, 0.0)])]

    def test_what_is_handed_in_is_as_it_was(self):
        for first, second in self.LISTS:
            a = flat(*first)
            b = flat(*second)
            before = (list(a), list(b))
            dot(len(first), a, b)
            self.assertEqual((a, b), before)
        a = []
        b = []
        dot(65537, a, b)
        self.assertEqual((a, b), ([], []))

    def test_one_list_may_be_both(self):
        ends = flat((1.0, 2.0), (-3.0, 1.0))
        self.assertEqual(dot(2, ends, ends), [0] + flat((-2.0, 13.0)))
        self.assertEqual(ends, flat((1.0, 2.0), (-3.0, 1.0)))

    def test_nothing_is_kept_from_one_call_to_the_next(self):
        for a, b in self.LISTS:
            first = dotted(a, b)
            expected = list(first)
            first[0] = 9
            first.append(7)
            dotted([(2.0, 1.0)], [ONE])
            dotted([(5.0, 6.0), (7.0, INF)], [ONE, ONE])
            self.assertEqual(dotted(a, b), expected)
            self.assertEqual(dot(70000, [], []), [-2])
            self.assertEqual(dot(0, [], []), [0, 0, 0])

    def test_answers_are_lists_of_whole_numbers(self):
        answers = [dotted(a, b) for a, b in self.LISTS]
        for answer in answers:
            self.assertEqual(len(answer), 3)
        for answer in answers + [dot(65537, [], [])]:
            self.assertIs(type(answer), list)
            self.assertEqual({type(number) for number in answer}, {int})

    def test_nothing_is_printed(self):
        printed = io.StringIO()
        with contextlib.redirect_stdout(printed), contextlib.redirect_stderr(printed):
            for a, b in self.LISTS:
                dotted(a, b)
            dot(65537, [], [])
        self.assertEqual(printed.getvalue(), "")


class Drawn(DotCase):
    """Many drawn lists, the same ones each time."""

    # Sizes of a's and of b's ends: ordinary, denormal products, products at the largest double, and mixed.
    SIZES = [(0, 0), (-530, -530), (-1060, 0), (512, 507), (1014, 0), (-1060, 1014)]

    def test_all_lists_of_two_at_the_edges(self):
        ends = [(-INF, -LARGEST), (-LARGEST, -LARGEST), (-1.0, 0.1), (-TINY, -0.0), (0.0, 0.0), (TINY, TINY),
                (0.1, LARGEST), (LARGEST, INF), (-INF, INF), (2.0, 1.0)]
        pairs = [(first, second) for first in ends for second in ends]
        for a in pairs:
            for b in pairs[::3]:
                self.agrees(flat(*a), flat(*b))

    def test_drawn_lists_of_any_kind(self):
        source = random.Random(41)
        for _ in range(4000):
            count = source.randrange(0, 5)
            self.agrees(draw_list(source, count, None), draw_list(source, count, None))

    def test_drawn_lists_of_intervals_that_are_near_one_another(self):
        source = random.Random(42)
        for a_size, b_size in self.SIZES:
            for _ in range(600):
                count = source.randrange(2, 12)
                self.agrees(draw_list(source, count, a_size), draw_list(source, count, b_size))

    def test_the_drawn_lists_show_each_rounding(self):
        source = random.Random(43)
        products_show = 0
        sums_show = 0
        for _ in range(500):
            count = source.randrange(2, 12)
            a = draw_list(source, count, 0)
            b = draw_list(source, count, 0)
            products_show += dot(count, a, b) != reckon.dot_of_exact_products(a, b)
            sums_show += dot(count, a, b) != reckon.dot_of_exact_sums(a, b)
        self.assertGreater(products_show, 100)
        self.assertGreater(sums_show, 100)

    def test_the_exact_result_lies_within(self):
        """By the words alone: whatever is picked from the intervals, the sum of its products is in what's told."""
        source = random.Random(44)
        for _ in range(1500):
            count = source.randrange(1, 10)
            a = draw_list(source, count, 0)
            b = draw_list(source, count, 0)
            low, high = [Fraction(reckon.number(end)) for end in dot(count, a, b)[1:]]
            picked = sum(Fraction(reckon.number(a[2 * k + source.randrange(2)]))
                         * Fraction(reckon.number(b[2 * k + source.randrange(2)])) for k in range(count))
            self.assertLessEqual(low, picked)
            self.assertGreaterEqual(high, picked)


if __name__ == "__main__":
    unittest.main()
