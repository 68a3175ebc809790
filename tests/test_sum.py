"""Tests of sum_of: promise 1 as far as it speaks of sum, and what promise 3 says of it."""

import contextlib
import io
import random
import unittest
from fractions import Fraction

import reckon
from enclosing.ends import sum_of
from reckon import EMPTY_BITS, EMPTY_PAIRS, INF, LARGEST, LEAST_NORMAL, MINUS_ZERO, MOST_DENORMAL, NAN, NANS, TINY
from reckon import bits, down, draw_list, flat, up


def point(number):
    return (number, number)


def summed(*pairs):
    return sum_of(len(pairs), flat(*pairs))


class SumCase(unittest.TestCase):
    def tells(self, pairs, expected):
        self.assertEqual(summed(*pairs), [0] + flat(expected), pairs)

    def tells_points(self, numbers, expected):
        self.tells([point(number) for number in numbers], expected)

    def tells_empty(self, pairs):
        self.assertEqual(summed(*pairs), [1] + EMPTY_BITS, pairs)

    def agrees(self, a):
        shown = [reckon.number(end) for end in a[:40]]
        self.assertEqual(sum_of(len(a) // 2, a), reckon.sum_of(a), shown)


class Few(SumCase):
    def test_of_none_it_is_0_to_0_and_not_empty(self):
        self.assertEqual(sum_of(0, []), [0, 0, 0])

    def test_one_interval_alone_is_told_as_it_is(self):
        for pair in [(1.0, 2.5), (-3.0, -0.1), (-INF, 4.0), (-4.0, INF), (-INF, INF), (TINY, MOST_DENORMAL),
                     (-LARGEST, LARGEST), (LARGEST, INF), (-INF, -LARGEST), (0.1, 0.1), (0.0, 0.0)]:
            self.tells([pair], pair)

    def test_one_interval_alone_with_an_end_of_minus_0(self):
        self.tells([(-0.0, -0.0)], (0.0, 0.0))
        self.tells([(-0.0, 0.0)], (0.0, 0.0))
        self.tells([(0.0, -0.0)], (0.0, 0.0))
        self.tells([(-0.0, 3.0)], (0.0, 3.0))
        self.tells([(-3.0, -0.0)], (-3.0, 0.0))

    def test_one_interval_alone_that_is_empty(self):
        for pair in EMPTY_PAIRS:
            self.tells_empty([pair])
        for nan in NANS:
            for ends in ([nan, bits(1.0)], [bits(-1.0), nan], [nan, nan]):
                self.assertEqual(sum_of(1, ends), [1] + EMPTY_BITS)

    def test_sums_that_are_exact(self):
        self.tells([(1.0, 2.0), (-5.0, 4.0)], (-4.0, 6.0))
        self.tells([(1.0, 2.0), (10.0, 20.0), (100.0, 200.0)], (111.0, 222.0))
        self.tells([(-1.0, 0.5), (-1.0, 0.5), (2.0, 2.0)], (0.0, 3.0))

    def test_sums_that_are_rounded_outwards(self):
        self.tells_points([0.1, 0.2], (0.3, up(0.3)))
        self.tells_points([1.0, TINY], (1.0, up(1.0)))
        self.tells_points([-1.0, -TINY], (down(-1.0), -1.0))
        self.tells([(1.0, 1.0), (0.0, TINY)], (1.0, up(1.0)))


class OneAfterAnother(SumCase):
    def test_each_sum_is_rounded_and_not_only_the_last(self):
        # Exactly, each of these sums is a double.
        self.tells_points([1.0, TINY, -1.0], (0.0, 2.0 ** -52))
        self.tells_points([-1.0, -TINY, 1.0], (-(2.0 ** -52), 0.0))
        self.tells_points([1.0, 2.0 ** -53, 2.0 ** -53], (1.0, 1.0 + 2.0 ** -51))
        self.tells_points([2.0 ** 53, 1.0, 1.0], (2.0 ** 53, 2.0 ** 53 + 4.0))

    def test_the_first_is_the_first_to_be_added(self):
        self.tells_points([1.0, TINY, -1.0], (0.0, 2.0 ** -52))
        self.tells_points([-1.0, TINY, 1.0], (0.0, 2.0 ** -53))
        self.tells_points([1.0, -1.0, TINY], (TINY, TINY))
        self.tells_points([TINY, -1.0, 1.0], (0.0, 2.0 ** -53))
        self.tells_points([2.0 ** -53, 2.0 ** -53, 1.0], (up(1.0), up(1.0)))

    def test_no_two_are_taken_together_ahead_of_the_sum_so_far(self):
        self.tells_points([1.0, 2.0 ** -53, 1.0, 2.0 ** -53], (2.0, 2.0 + 2.0 ** -50))
        self.tells_points([2.0 ** 53, 1.0, -(2.0 ** 53), 1.0], (1.0, 3.0))
        self.tells_points([1.0, 2.0 ** 53, -(2.0 ** 53), 1.0], (1.0, 3.0))
        self.tells_points([2.0 ** 53, -(2.0 ** 53), 1.0, 1.0], (2.0, 2.0))

    def test_many_small_ones_widen_the_sum_step_by_step(self):
        count = 1000
        self.tells_points([1.0] + [TINY] * count, (1.0, 1.0 + count * 2.0 ** -52))
        self.tells_points([TINY] * count + [1.0], (1.0, up(1.0)))

    def test_the_ends_are_rounded_apart(self):
        self.tells([(1.0, 2.0), (TINY, 2.0), (-1.0, 4.0)], (0.0, 8.0))
        self.tells([(1.0, 1.0), (0.0, TINY), (-1.0, -1.0)], (0.0, 2.0 ** -52))
        self.tells([(1.0, 1.0), (-TINY, 0.0), (-1.0, -1.0)], (-(2.0 ** -53), 0.0))


class Edges(SumCase):
    def test_an_end_that_has_become_infinite_stays_so(self):
        self.tells_points([LARGEST, LARGEST, -LARGEST], (0.0, INF))
        self.tells_points([-LARGEST, -LARGEST, LARGEST], (-INF, 0.0))
        self.tells_points([LARGEST, TINY, -LARGEST, -LARGEST], (-LARGEST, INF))
        self.tells_points([-LARGEST, -TINY, LARGEST, LARGEST], (-INF, LARGEST))
        self.tells_points([LARGEST, LARGEST] + [-LARGEST] * 50, (-INF, INF))

    def test_an_end_that_has_become_the_largest_double_goes_on_as_that(self):
        self.tells_points([LARGEST, LARGEST, LARGEST, -1.0], (down(LARGEST), INF))
        self.tells_points([LARGEST] * 4 + [-LARGEST], (0.0, INF))
        self.tells_points([-LARGEST] * 4 + [LARGEST], (-INF, 0.0))
        self.tells_points([LARGEST, LARGEST, -LARGEST, 5.0], (5.0, INF))

    def test_only_one_end_goes_past_the_largest_double(self):
        self.tells([(1.0, LARGEST), (1.0, LARGEST), (-1.0, -1.0)], (1.0, INF))
        self.tells([(-LARGEST, 1.0), (-LARGEST, 1.0), (1.0, 1.0)], (-INF, 3.0))
        self.tells_points([LARGEST, 0.0, 0.0], (LARGEST, LARGEST))
        self.tells_points([LARGEST, -LARGEST, LARGEST], (LARGEST, LARGEST))

    def test_infinite_ends(self):
        self.tells([(-INF, 1.0), (2.0, 3.0)], (-INF, 4.0))
        self.tells([(2.0, 3.0), (-INF, 1.0)], (-INF, 4.0))
        self.tells([(1.0, INF), (2.0, 3.0), (-9.0, -9.0)], (-6.0, INF))
        self.tells([(-INF, 1.0), (2.0, INF)], (-INF, INF))
        self.tells([(1.0, INF), (-INF, 2.0)], (-INF, INF))
        self.tells([(-INF, 1.0), (LARGEST, LARGEST), (LARGEST, LARGEST)], (-INF, INF))
        self.tells([(-INF, INF), (-INF, INF), (1.0, 1.0)], (-INF, INF))
        self.tells([(-INF, 1.0)] * 300, (-INF, 300.0))
        self.tells([(LARGEST, INF), (-LARGEST, -LARGEST)], (0.0, INF))

    def test_denormal_ends(self):
        self.tells_points([TINY] * 5, (5 * TINY, 5 * TINY))
        self.tells_points([MOST_DENORMAL, TINY], (LEAST_NORMAL, LEAST_NORMAL))
        self.tells_points([LEAST_NORMAL, -TINY], (MOST_DENORMAL, MOST_DENORMAL))
        self.tells([(-TINY, TINY), (TINY, MOST_DENORMAL), (-MOST_DENORMAL, TINY)],
                   (-MOST_DENORMAL, LEAST_NORMAL + TINY))
        self.tells_points([TINY, -TINY, TINY, -TINY], (0.0, 0.0))

    def test_ends_that_are_0_of_either_sign(self):
        for first in (0.0, -0.0):
            for second in (0.0, -0.0):
                self.tells([(first, second)], (0.0, 0.0))
                self.tells([(first, second), (second, first)], (0.0, 0.0))
                self.tells([(first, second), (1.0, 2.0)], (1.0, 2.0))
                self.tells([(1.0, 2.0), (first, second)], (1.0, 2.0))
        self.tells([(-0.0, -0.0)] * 7, (0.0, 0.0))

    def test_no_sum_gives_minus_0(self):
        for numbers in ([1.0, -1.0], [-1.0, 1.0], [-TINY, TINY], [-0.0, -0.0], [LARGEST, -LARGEST], [0.5, -1.0, 0.5]):
            answer = summed(*[point(number) for number in numbers])
            self.assertEqual(answer, [0, 0, 0])
            self.assertNotIn(MINUS_ZERO, answer)


class Empty(SumCase):
    def test_where_an_interval_is_empty_the_sum_is(self):
        others = [(1.0, 2.0), (-INF, INF), (0.0, 0.0), (LARGEST, LARGEST)]
        for empty in EMPTY_PAIRS:
            for place in range(len(others) + 1):
                self.tells_empty(others[:place] + [empty] + others[place:])

    def test_several_empty_ones_are_told_as_one(self):
        self.tells_empty([(2.0, 1.0), (2.0, 1.0)])
        self.tells_empty([(NAN, 1.0), (1.0, 2.0), (INF, -INF)])
        self.tells_empty(EMPTY_PAIRS)

    def test_an_empty_one_among_many(self):
        for place in (0, 1, 3999, 7998, 7999):
            pairs = [(1.0, 2.0)] * 8000
            pairs[place] = (2.0, 1.0)
            self.tells_empty(pairs)


class Refusals(SumCase):
    def test_n_above_65536(self):
        for n in (65537, 65538, 131072, 2147483648, 4294967295):
            self.assertEqual(sum_of(n, []), [-2])

    def test_the_greatest_n_that_the_list_allows(self):
        self.tells([(float(k), k + 1.0) for k in range(8000)], (31996000.0, 32004000.0))
        self.agrees(draw_list(random.Random(5), 8000, 0))

    def test_n_of_65536_is_not_refused(self):
        # A longer list than is handed in, but the bound that the document names is checked at its very edge.
        self.assertEqual(sum_of(65536, flat((1.0, 2.0)) * 65536), [0] + flat((65536.0, 131072.0)))


class Calls(SumCase):
    LISTS = [[], [(-0.0, 2.0)], [(1.0, 2.0), (TINY, 0.1), (-0.0, -0.0)], [(2.0, 1.0), (1.0, 2.0)],
             [(1.0, 2.0), (NAN, INF)], [(LARGEST, LARGEST), (LARGEST, INF)]]

    def test_what_is_handed_in_is_as_it_was(self):
        for pairs in self.LISTS:
            a = flat(*pairs)
            before = list(a)
            sum_of(len(pairs), a)
            self.assertEqual(a, before)
        nothing = []
        sum_of(65537, nothing)
        self.assertEqual(nothing, [])

    def test_nothing_is_kept_from_one_call_to_the_next(self):
        for pairs in self.LISTS:
            first = summed(*pairs)
            expected = list(first)
            first[0] = 9
            first.append(7)
            summed((2.0, 1.0))
            summed((5.0, 6.0), (7.0, INF))
            self.assertEqual(summed(*pairs), expected)
            self.assertEqual(sum_of(70000, []), [-2])
            self.assertEqual(sum_of(0, []), [0, 0, 0])

    def test_answers_are_lists_of_whole_numbers(self):
        answers = [summed(*pairs) for pairs in self.LISTS]
        for answer in answers:
            self.assertEqual(len(answer), 3)
        for answer in answers + [sum_of(65537, [])]:
            self.assertIs(type(answer), list)
            self.assertEqual({type(number) for number in answer}, {int})

    def test_nothing_is_printed(self):
        printed = io.StringIO()
        with contextlib.redirect_stdout(printed), contextlib.redirect_stderr(printed):
            for pairs in self.LISTS:
                summed(*pairs)
            sum_of(65537, [])
        self.assertEqual(printed.getvalue(), "")


class Drawn(SumCase):
    """Many drawn lists, the same ones each time."""

    def test_all_lists_of_three_at_the_edges(self):
        ends = [(-INF, -LARGEST), (-LARGEST, -LARGEST), (-1.0, 0.1), (-TINY, -0.0), (0.0, TINY), (1.0, 1.0),
                (LARGEST, LARGEST), (0.0, LARGEST), (LARGEST, INF), (-INF, INF), (2.0, 1.0), (INF, NAN)]
        for first in ends:
            for second in ends:
                for third in ends:
                    self.agrees(flat(first, second, third))

    def test_drawn_lists_of_any_kind(self):
        source = random.Random(31)
        for _ in range(4000):
            self.agrees(draw_list(source, source.randrange(0, 6), None))

    def test_drawn_lists_of_intervals_that_are_near_one_another(self):
        source = random.Random(32)
        for exponent in (0, -1060, -1020, 1014):
            told_apart = 0
            for _ in range(1500):
                a = draw_list(source, source.randrange(2, 16), exponent)
                self.agrees(a)
                told_apart += reckon.sum_of(a) != reckon.sum_rounded_once(a)
            # Near -1060 every sum is exact; elsewhere these lists are of use only if each rounding shows.
            if exponent != -1060:
                self.assertGreater(told_apart, 300, exponent)

    def test_the_exact_sum_lies_within(self):
        """By the words alone: whatever is picked from the intervals, its sum is in what's told."""
        source = random.Random(33)
        for _ in range(1500):
            a = draw_list(source, source.randrange(1, 12), 0)
            low, high = [Fraction(reckon.number(end)) for end in sum_of(len(a) // 2, a)[1:]]
            ends = [Fraction(reckon.number(end)) for end in a]
            picked = sum(source.choice((ends[k], ends[k + 1])) for k in range(0, len(ends), 2))
            self.assertLessEqual(low, sum(ends[0::2]))
            self.assertLessEqual(low, picked)
            self.assertGreaterEqual(high, picked)
            self.assertGreaterEqual(high, sum(ends[1::2]))


if __name__ == "__main__":
    unittest.main()
