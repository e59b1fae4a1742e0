"""Promises [1] and [3], over all functions that are there: what is handed in stays, what is told is the asker's own,
elements of every kind, and what may be asked."""

import unittest

from helper import (EVERY_KIND, Asked, by_kind, by_number, by_tag, inserted, log, no_orders, numbers, rising, same,
                    sign, tagged)
from yourorder.rows import ahead, in_order, lower, merged, stable, unique, upper
from yourorder.sets import both, either, without

OF_ONE_ROW = (ahead, in_order, stable, unique)
OF_A_KEY = (lower, upper)
OF_TWO_ROWS = (merged, either, both, without)
SIZES = (0, 1, 2, 3, 7, 16, 33, 299, 300)


def most_questions(function, n, m=0):
    """The bounds of [10], [11] and [21]."""
    if function in (ahead, in_order, unique):
        return max(n - 1, 0)
    if function is stable:
        return n * log(n)
    if function in OF_A_KEY:
        return log(n + 1)
    return n + m - 1 if n and m else 0


def calls(n):
    """Each function with rows of about n elements: the function, and what is handed in ahead of the order."""
    mixed = tagged(numbers(n, 9, n))
    one = tagged(rising(n, 2))
    other = tagged(rising(n // 2 + 1, 3), "other")
    for function in OF_ONE_ROW:
        yield function, [mixed]
        yield function, [one]
    for function in OF_A_KEY:
        yield function, [one, (n, "key")]
    for function in OF_TWO_ROWS:
        for pair in ([one, other], [other, one], [one, []], [[], one], [one, one]):
            yield function, pair


def asked_calls():
    """Each function with rows of each size, by an order and by each function that is none."""
    for n in SIZES:
        makers = {"an order": lambda: by_tag, **no_orders(n)}
        for function, handed in calls(n):
            for name, make in makers.items():
                yield function, handed, Asked(make()), (function.__name__, n, name)


class HandedInTest(unittest.TestCase):
    def test_what_is_handed_in_stays(self):
        for function, handed, order, name in asked_calls():
            as_it_was = repr(handed)
            function(*handed, order)
            self.assertEqual(repr(handed), as_it_was, name)

    def test_what_is_told_is_the_askers_own(self):
        for function, handed, order, name in asked_calls():
            told = function(*handed, order)
            if isinstance(told, list):
                as_it_was = repr(handed)
                told.append("more")
                told[0] = "changed"
                self.assertEqual(repr(handed), as_it_was, name)
                told.clear()
                self.assertEqual(repr(handed), as_it_was, name)

    def test_a_second_call_tells_a_list_of_its_own(self):
        row = tagged(rising(5))
        for function, handed in ((stable, [row]), (unique, [row]), (merged, [row, []]), (merged, [[], row]),
                                 (either, [row, row]), (both, [row, row]), (without, [row, []])):
            with self.subTest(function=function.__name__):
                told = function(*handed, by_tag)
                self.assertEqual(told, row)
                told.clear()
                self.assertEqual(function(*handed, by_tag), row)

    def test_kinds_of_what_is_told(self):
        for n in SIZES:
            for function, handed in calls(n):
                told = function(*handed, by_tag)
                kind = bool if function is in_order else int if function in (ahead, lower, upper) else list
                self.assertIs(type(told), kind, function.__name__)

    def test_only_what_was_handed_in_is_asked_of(self):
        for function, handed, order, name in asked_calls():
            function(*handed, order)
            there = {id(element) for row in handed if isinstance(row, list) for element in row}
            second_there = {id(handed[1])} if function in OF_A_KEY else there
            self.assertLessEqual({id(first) for first, _ in order.questions}, there, name)
            self.assertLessEqual({id(second) for _, second in order.questions}, second_there, name)

    def test_each_call_ends_in_no_more_questions_than_told(self):
        for function, handed, order, name in asked_calls():
            function(*handed, order)
            sizes = [len(row) for row in handed if isinstance(row, list)]
            self.assertLessEqual(order.count(), most_questions(function, *sizes), name)

    def test_answers_of_any_size_count_by_their_sign(self):
        for n in SIZES:
            for function, handed in calls(n):
                wanted = function(*handed, lambda a, b: sign(a[0] - b[0]))
                for factor in (2, 3, 10 ** 30):
                    told = function(*handed, lambda a, b: (a[0] - b[0]) * factor)
                    self.assertEqual(told, wanted, (function.__name__, n, factor))


class EveryKindTest(unittest.TestCase):
    """The answers hold True beside 1 and False beside 0, so they are compared with their kinds."""

    def setUp(self):
        self.row = inserted(EVERY_KIND, by_kind)
        self.bare = [element for place, element in enumerate(self.row)
                     if place == 0 or by_kind(self.row[place - 1], element) != 0]

    def assert_same(self, told, wanted):
        self.assertTrue(same(told, wanted), (told, wanted))

    def test_rows(self):
        self.assert_same(stable(EVERY_KIND, by_kind), self.row)
        self.assert_same(unique(self.row, by_kind), self.bare)
        self.assert_same(merged(self.row, self.bare, by_kind), inserted(self.row + self.bare, by_kind))
        self.assertEqual(ahead(self.row, by_kind), len(self.row))
        self.assertIs(in_order(self.row, by_kind), True)
        self.assertIs(in_order(EVERY_KIND, by_kind), False)

    def test_keys(self):
        for key in EVERY_KIND + [2, "aa", (0,), ((),), -1]:
            with self.subTest(key=key):
                self.assertEqual(lower(self.row, key, by_kind),
                                 sum(by_kind(element, key) < 0 for element in self.row))
                self.assertEqual(upper(self.row, key, by_kind),
                                 sum(by_kind(element, key) <= 0 for element in self.row))

    def test_sets(self):
        one = self.bare[::2]
        other = self.bare[1::2]
        self.assert_same(either(one, other, by_kind), self.bare)
        self.assert_same(both(one, other, by_kind), [])
        self.assert_same(without(one, other, by_kind), one)
        self.assert_same(both(one, self.bare, by_kind), one)
        self.assert_same(without(self.bare, one, by_kind), other)

    def test_all_like(self):
        row = [None, True, 0, "a", (), 1, False]
        like = lambda first, second: 0
        self.assert_same(stable(row, like), row)
        self.assert_same(unique(row, like), [None])
        self.assert_same(merged(row, row[::-1], like), row + row[::-1])

    def test_the_same_object_many_times(self):
        row = [None] * 300
        like = lambda first, second: 0
        self.assert_same(stable(row, like), row)
        self.assert_same(stable([None] * 300, lambda first, second: 1), row)
        self.assert_same(merged(row, row, like), row + row)

    def test_rows_somewhat_beyond_the_bound(self):
        row = numbers(700, 50, 3)
        self.assertEqual(stable(row, by_number), sorted(row))
        self.assertEqual(merged(sorted(row), sorted(row), by_number), sorted(row + row))


if __name__ == "__main__":
    unittest.main()
