"""Tests of check: promise 1 as far as it speaks of it, and promise 5."""

import contextlib
import io
import random
import unittest

import reckon
from enclosing.ends import arith, check
from reckon import EMPTY_BITS, EMPTY_PAIRS, INF, LARGEST, LEAST_NORMAL, MOST_DENORMAL, NAN, NANS, TINY
from reckon import bits, down, draw_list, flat, up

# Two doubles that are an interval, some of them nearly not.
PRESENT_PAIRS = [
    (0.0, 0.0), (-0.0, -0.0), (0.0, -0.0), (-0.0, 0.0),
    (-INF, INF), (-INF, 1.0), (-1.0, INF), (-INF, -LARGEST), (LARGEST, INF), (-INF, LARGEST), (-LARGEST, INF),
    (-INF, 0.0), (-INF, -0.0), (0.0, INF), (-0.0, INF), (-INF, -TINY), (TINY, INF),
    (1.0, 1.0), (-1.0, -1.0), (LARGEST, LARGEST), (-LARGEST, -LARGEST), (-LARGEST, LARGEST),
    (1.0, 2.0), (-2.0, -1.0), (-1.0, 1.0), (1.0, up(1.0)), (down(-1.0), -1.0),
    (TINY, TINY), (-TINY, -TINY), (-TINY, TINY), (0.0, TINY), (-0.0, TINY), (-TINY, 0.0), (-TINY, -0.0),
    (MOST_DENORMAL, LEAST_NORMAL), (-LEAST_NORMAL, -MOST_DENORMAL), (TINY, 2 * TINY), (-2 * TINY, -TINY),
]


def counted(*pairs):
    return check(len(pairs), flat(*pairs))


class Single(unittest.TestCase):
    def test_none(self):
        self.assertEqual(check(0, []), [0])

    def test_those_that_are_intervals(self):
        for pair in PRESENT_PAIRS:
            self.assertEqual(counted(pair), [0], pair)

    def test_a_nan_of_either_sign_at_either_end(self):
        others = [bits(end) for end in (-INF, -LARGEST, -1.0, -TINY, -0.0, 0.0, TINY, 1.0, LARGEST, INF)]
        for nan in NANS:
            for other in others + NANS:
                self.assertEqual(check(1, [nan, other]), [1])
                self.assertEqual(check(1, [other, nan]), [1])

    def test_a_lower_end_above_the_upper(self):
        for pair in [(2.0, 1.0), (-1.0, -2.0), (1.0, -1.0), (TINY, 0.0), (TINY, -0.0), (0.0, -TINY), (-0.0, -TINY),
                     (TINY, -TINY), (2 * TINY, TINY), (-TINY, -2 * TINY), (up(1.0), 1.0), (-1.0, down(-1.0)),
                     (LARGEST, -LARGEST), (LARGEST, down(LARGEST)), (LEAST_NORMAL, MOST_DENORMAL)]:
            self.assertEqual(counted(pair), [1], pair)

    def test_a_lower_end_of_plus_infinity(self):
        for high in (INF, LARGEST, 1.0, TINY, 0.0, -0.0, -1.0, -LARGEST, -INF, NAN):
            self.assertEqual(counted((INF, high)), [1], high)

    def test_an_upper_end_of_minus_infinity(self):
        for low in (-INF, -LARGEST, -1.0, -0.0, 0.0, TINY, 1.0, LARGEST, INF, NAN):
            self.assertEqual(counted((low, -INF)), [1], low)

    def test_the_ways_that_the_other_tests_go_through(self):
        for pair in EMPTY_PAIRS:
            self.assertEqual(counted(pair), [1], pair)

    def test_the_empty_interval_as_it_is_told(self):
        self.assertEqual(check(1, EMPTY_BITS), [1])

    def test_infinities_beside_their_neighbours_in_bits(self):
        # The bits one below an infinity are the largest double's, those one above a NaN's.
        one = bits(1.0)
        self.assertEqual(check(1, [one, 0x7FEFFFFFFFFFFFFF]), [0])
        self.assertEqual(check(1, [one, 0x7FF0000000000000]), [0])
        self.assertEqual(check(1, [one, 0x7FF0000000000001]), [1])
        self.assertEqual(check(1, [0xFFEFFFFFFFFFFFFF, one]), [0])
        self.assertEqual(check(1, [0xFFF0000000000000, one]), [0])
        self.assertEqual(check(1, [0xFFF0000000000001, one]), [1])


class Several(unittest.TestCase):
    def test_they_are_counted(self):
        self.assertEqual(counted((1.0, 2.0), (2.0, 1.0), (3.0, 4.0)), [1])
        self.assertEqual(counted((2.0, 1.0), (2.0, 1.0)), [2])
        self.assertEqual(counted(*PRESENT_PAIRS), [0])
        self.assertEqual(counted(*EMPTY_PAIRS), [len(EMPTY_PAIRS)])
        self.assertEqual(counted(*PRESENT_PAIRS, *EMPTY_PAIRS, *PRESENT_PAIRS), [len(EMPTY_PAIRS)])

    def test_each_place_is_looked_at(self):
        for place in range(5):
            pairs = [(1.0, 2.0)] * 5
            pairs[place] = (INF, -INF)
            self.assertEqual(counted(*pairs), [1])
            pairs = [(NAN, 2.0)] * 5
            pairs[place] = (1.0, 2.0)
            self.assertEqual(counted(*pairs), [4])

    def test_an_end_goes_with_its_own_interval(self):
        # Taken one place later, each of these would be crossed.
        self.assertEqual(counted((5.0, 6.0), (3.0, 4.0), (1.0, 2.0)), [0])
        self.assertEqual(counted((6.0, 5.0), (7.0, 6.0), (8.0, 7.0)), [3])

    def test_drawn_lists(self):
        source = random.Random(61)
        for _ in range(500):
            count = source.randrange(0, 20)
            a = draw_list(source, count, None)
            self.assertEqual(check(count, a), reckon.check(a))
            self.assertEqual(check(count, a), arith(0, count, a, flat((0.0, 0.0)) * count)[:1])

    def test_every_two_of_some_ends(self):
        ends = NANS + [bits(end) for pair in PRESENT_PAIRS + EMPTY_PAIRS for end in pair]
        for low in ends:
            for high in ends:
                self.assertEqual(check(1, [low, high]), reckon.check([low, high]))


class Refusals(unittest.TestCase):
    def test_n_above_65536(self):
        for n in (65537, 65538, 131072, 2147483648, 4294967295):
            self.assertEqual(check(n, []), [-2])

    def test_the_greatest_n_that_the_list_allows(self):
        self.assertEqual(check(8000, flat((1.0, 2.0)) * 8000), [0])
        self.assertEqual(check(8000, flat((2.0, 1.0)) * 8000), [8000])
        self.assertEqual(check(8000, flat((2.0, 1.0), (1.0, 2.0)) * 4000), [4000])
        self.assertEqual(check(8000, flat((1.0, 2.0)) * 7999 + flat((NAN, 2.0))), [1])
        a = draw_list(random.Random(62), 8000, None)
        self.assertEqual(check(8000, a), reckon.check(a))

    def test_n_of_65536_is_not_refused(self):
        # A longer list than is handed in, but the bound that the document names is checked at its very edge.
        self.assertEqual(check(65536, flat((2.0, 1.0)) * 65536), [65536])


class Calls(unittest.TestCase):
    LISTS = [[], [(-0.0, 2.0)], [(1.0, 2.0), (TINY, 0.1), (0.0, -0.0)], [(2.0, 1.0), (1.0, 2.0)], [(NAN, INF)] * 3]

    def test_what_is_handed_in_is_as_it_was(self):
        for pairs in self.LISTS:
            a = flat(*pairs)
            before = list(a)
            check(len(pairs), a)
            self.assertEqual(a, before)
        nothing = []
        check(65537, nothing)
        self.assertEqual(nothing, [])

    def test_nothing_is_kept_from_one_call_to_the_next(self):
        for pairs in self.LISTS:
            first = counted(*pairs)
            expected = list(first)
            first[0] = 9
            first.append(7)
            counted((2.0, 1.0), (1.0, 2.0))
            self.assertEqual(counted(*pairs), expected)
            self.assertEqual(check(70000, []), [-2])
            self.assertEqual(check(0, []), [0])

    def test_an_answer_is_a_list_of_one_whole_number(self):
        for answer in [counted(*pairs) for pairs in self.LISTS] + [check(65537, [])]:
            self.assertIs(type(answer), list)
            self.assertEqual([type(number) for number in answer], [int])

    def test_nothing_is_printed(self):
        printed = io.StringIO()
        with contextlib.redirect_stdout(printed), contextlib.redirect_stderr(printed):
            for pairs in self.LISTS:
                counted(*pairs)
            check(65537, [])
        self.assertEqual(printed.getvalue(), "")


if __name__ == "__main__":
    unittest.main()
