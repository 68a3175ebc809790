"""Tests of the whole program: calls of all five functions one after another, and what is handed to them."""

import inspect
import itertools
import random
import sys
import unittest

import reckon
from enclosing import ends
from reckon import INF, LARGEST, NAN, TINY, bits, draw_interval, draw_list, flat

A = flat((1.0, 2.0), (-0.0, 0.1), (-3.0, INF))
B = flat((-1.0, 0.3), (0.0, 0.0), (2.0, 2.0))
WITH_EMPTY = flat((1.0, 2.0), (2.0, 1.0), (NAN, 1.0))
C = [bits(number) for number in (0.1, -0.0, 1.0)]
X = flat((-0.1, 0.7))

# Of each function some calls: ordinary ones, empty results, edges, and refusals.
CALLS = {
    "arith": [(0, 3, A, B), (2, 3, A, B), (3, 3, A, B), (4, 3, A, B), (5, 3, WITH_EMPTY, A), (6, 3, A, WITH_EMPTY),
              (1, 0, [], []), (7, 3, A, B), (-1, 0, [], []), (0, 65537, [], [])],
    "sum_of": [(3, A), (3, WITH_EMPTY), (0, []), (2, flat((LARGEST, LARGEST), (TINY, TINY))), (65537, [])],
    "dot": [(3, A, B), (3, WITH_EMPTY, A), (3, A, WITH_EMPTY), (0, [], []), (4294967295, [], [])],
    "evaluate": [(2, C, X), (0, C[:1], X), (2, C, flat((2.0, 1.0))), (1, [bits(INF), C[0]], X), (1025, [], X)],
    "check": [(3, A), (3, WITH_EMPTY), (0, []), (65537, [])],
}


class OnlyRead(list):
    """A list that fails where it would be changed, so that a change taken back later is seen too."""

    def fail(self, *ignored, **also_ignored):
        raise AssertionError("what is handed in is changed")

    append = extend = insert = pop = remove = clear = sort = reverse = fail
    __setitem__ = __delitem__ = __iadd__ = __imul__ = fail


def copied(argument, kind=list):
    return kind(argument) if isinstance(argument, list) else argument


def called(name, arguments):
    return getattr(ends, name)(*[copied(argument) for argument in arguments])


def expected_of(name, arguments):
    """What the independent reckoning answers, refusals with it."""
    if name == "arith":
        refused = arguments[0] not in range(7) or arguments[1] > 65536
        return [-2] if refused else reckon.arith(arguments[0], *arguments[2:])
    if arguments[0] > (1024 if name == "evaluate" else 65536):
        return [-2]
    return getattr(reckon, name)(*arguments[1:])


class Interface(unittest.TestCase):
    def test_names_and_arguments(self):
        told = {"arith": ["op", "n", "a", "b"], "sum_of": ["n", "a"], "dot": ["n", "a", "b"],
                "evaluate": ["n", "c", "x"], "check": ["n", "a"]}
        for name, arguments in told.items():
            self.assertEqual(list(inspect.signature(getattr(ends, name)).parameters), arguments)

    def test_arguments_by_name(self):
        self.assertEqual(ends.arith(op=0, n=0, a=[], b=[]), [0])
        self.assertEqual(ends.sum_of(n=0, a=[]), [0, 0, 0])
        self.assertEqual(ends.dot(n=0, a=[], b=[]), [0, 0, 0])
        self.assertEqual(ends.evaluate(n=0, c=[0], x=[0, 0]), [0, 0, 0])
        self.assertEqual(ends.check(n=0, a=[]), [0])

    def test_every_call_refuses_an_n_above_what_is_given(self):
        for n in (65537, 4294967295):
            for op in range(7):
                self.assertEqual(ends.arith(op, n, [], []), [-2])
            self.assertEqual(ends.sum_of(n, []), [-2])
            self.assertEqual(ends.dot(n, [], []), [-2])
            self.assertEqual(ends.check(n, []), [-2])
            self.assertEqual(ends.evaluate(n, [], X), [-2])
        self.assertEqual(ends.evaluate(1025, [], X), [-2])


class OneAfterAnother(unittest.TestCase):
    def test_in_every_order_of_the_functions(self):
        for order in itertools.permutations(CALLS):
            for name in order:
                for arguments in CALLS[name]:
                    self.assertEqual(called(name, arguments), expected_of(name, arguments), (order, name))

    def test_in_drawn_orders(self):
        calls = [(name, arguments) for name in CALLS for arguments in CALLS[name]]
        source = random.Random(71)
        for _ in range(100):
            for name, arguments in source.choices(calls, k=40):
                self.assertEqual(called(name, arguments), expected_of(name, arguments), name)

    def test_each_call_after_each_other(self):
        calls = [(name, arguments) for name in CALLS for arguments in CALLS[name]]
        for before in calls:
            for name, arguments in calls:
                called(*before)
                self.assertEqual(called(name, arguments), expected_of(name, arguments), (before, name))

    def test_an_answer_that_is_changed_changes_no_later_one(self):
        for name in CALLS:
            for arguments in CALLS[name]:
                answer = called(name, arguments)
                answer.append(answer[0])
                answer[0] = 77
                for other in CALLS:
                    for others in CALLS[other]:
                        self.assertEqual(called(other, others), expected_of(other, others))

    def test_drawn_calls_on_the_same_lists(self):
        source = random.Random(72)
        for _ in range(300):
            count = source.randrange(1, 6)
            a = draw_list(source, count, source.choice((None, 0)))
            b = draw_list(source, count, source.choice((None, 0)))
            x = draw_interval(source)
            calls = [("arith", (source.randrange(7), count, a, b)), ("sum_of", (count, a)), ("dot", (count, a, b)),
                     ("evaluate", (count - 1, a[:count], x)), ("check", (count, b))]
            source.shuffle(calls)
            for name, arguments in calls + calls:
                self.assertEqual(getattr(ends, name)(*arguments), expected_of(name, arguments), name)


class HandedIn(unittest.TestCase):
    def test_all_that_is_handed_in_is_as_it_was(self):
        for name in CALLS:
            for arguments in CALLS[name]:
                handed = [copied(argument) for argument in arguments]
                getattr(ends, name)(*handed)
                self.assertEqual(handed, list(arguments), name)

    def test_it_is_not_changed_for_a_while_either(self):
        for name in CALLS:
            for arguments in CALLS[name]:
                handed = [copied(argument, OnlyRead) for argument in arguments]
                self.assertEqual(getattr(ends, name)(*handed), expected_of(name, arguments), name)

    def test_an_answer_is_a_list_of_its_own(self):
        for name in CALLS:
            for arguments in CALLS[name]:
                handed = [copied(argument) for argument in arguments]
                answer = getattr(ends, name)(*handed)
                for argument in handed:
                    self.assertIsNot(answer, argument)
                self.assertIsNot(answer, getattr(ends, name)(*handed))


class DepthSeen:
    """How many calls stand within one another, at the most, while a function runs."""

    def __init__(self):
        self.now = 0
        self.most = 0

    def watch(self, frame, event, argument):
        if event == "call":
            self.now += 1
            self.most = max(self.most, self.now)
        elif event == "return":
            self.now -= 1

    def during(self, function, arguments):
        before = sys.getprofile()
        sys.setprofile(self.watch)
        try:
            function(*arguments)
        finally:
            sys.setprofile(before)
        return self.most


class LongLists(unittest.TestCase):
    def test_the_longest_lists_are_gone_through_by_loops(self):
        a = flat((1.0, 2.0)) * 8000
        for name, arguments in [("arith", (2, 8000, a, a)), ("sum_of", (8000, a)), ("dot", (8000, a, a)),
                                ("evaluate", (1024, a[:1025], flat((0.0, 0.5)))), ("check", (8000, a))]:
            self.assertLess(DepthSeen().during(getattr(ends, name), arguments), 20, name)


if __name__ == "__main__":
    unittest.main()
