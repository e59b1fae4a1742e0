"""Promises [1] and [3], over all functions that are there: what is handed in stays, what is told is the asker's own,
elements of every kind, and what may be asked. What they ask of maps is tested beside the maps."""

import unittest

from helper import (EVERY_KIND, FAR, Asked, by_kind, by_number, by_tag, inserted, log, no_orders, numbers, same, sign,
                    tagged)
from helper import rising as steps
from yourorder.heaps import heaped, is_heap, pop, push
from yourorder.picks import best, ends, least, nth, rising, turned_pairs
from yourorder.rows import ahead, in_order, lower, merged, stable, unique, upper
from yourorder.sets import both, either, without

OF_ANY_ROW = (ahead, in_order, stable, unique, is_heap, heaped, turned_pairs, rising)
OF_ROWS_WITH_SOME = (pop, least, ends)
OF_A_KEY = (lower, upper)
OF_TWO_ROWS = (merged, either, both, without)
TELLING_YES_OR_NO = (in_order, is_heap)
TELLING_A_NUMBER = (ahead, lower, upper, turned_pairs)
TELLING_A_PAIR = (pop, ends)
TELLING_AN_ELEMENT = (least, nth)
SIZES = (0, 1, 2, 3, 7, 16, 33, 299, 300)


def most_questions(function, handed):
    """The bounds of [10], [11], [21], [30] to [32] and [40] to [42]."""
    n = len(handed[0])
    if function in (ahead, in_order, unique, is_heap, least):
        return max(n - 1, 0)
    if function in OF_TWO_ROWS:
        return n + len(handed[1]) - 1 if handed[0] and handed[1] else 0
    if function is best:
        return n * (log(handed[1] + 1) + 1) if handed[1] else 0
    if function in (lower, upper, push):
        return log(n + 1)
    return {stable: n * log(n), nth: n * log(n), turned_pairs: n * log(n), rising: n * log(n + 1), pop: 2 * log(n),
            heaped: 2 * n, ends: 3 * n // 2}[function]


def calls(n):
    """Each function with rows of about n elements: the function, and what is handed in ahead of the order."""
    mixed = tagged(numbers(n, 9, n))
    one = tagged(steps(n, 2))
    other = tagged(steps(n // 2 + 1, 3), "other")
    for row in (mixed, one):
        for function in OF_ANY_ROW:
            yield function, [row]
        for function in OF_ROWS_WITH_SOME if n else ():
            yield function, [row]
        for many in (0, 1, n // 2, n, n + 1):
            yield best, [row, many]
        for place in {0, n // 2, n - 1} if n else ():
            yield nth, [row, place]
        for number in (-1, n, 2 * n):
            yield push, [row, (number, "new")]
    for function in OF_A_KEY:
        yield function, [one, (n, "key")]
    for function in OF_TWO_ROWS:
        for pair in ([one, other], [other, one], [one, []], [[], one], [one, one]):
            yield function, pair


def asked_calls():
    """Each function with rows of each size, by an order and by each function that is none."""
    for n in SIZES:
        makers = {"an order": lambda: by_tag, **no_orders(n)}
        for function, handed in calls(n):
            for name, make in makers.items():
                yield function, handed, Asked(make()), (function.__name__, n, name)


def may_be_asked(function, handed):
    """The elements that may stand first in a question, and those that may stand second."""
    there = {id(element) for row in handed if isinstance(row, list) for element in row}
    if function is push:
        there.add(id(handed[1]))
    return there, {id(handed[1])} if function in OF_A_KEY else there


def lists_in(told):
    if isinstance(told, tuple):
        return [part for part in told if isinstance(part, list)]
    return [told] if isinstance(told, list) else []


class HandedInTest(unittest.TestCase):
    def test_what_is_handed_in_stays(self):
        for function, handed, order, name in asked_calls():
            as_it_was = repr(handed)
            function(*handed, order)
            self.assertEqual(repr(handed), as_it_was, name)

    def test_what_is_told_is_the_askers_own(self):
        for function, handed, order, name in asked_calls():
            for told in lists_in(function(*handed, order)):
                as_it_was = repr(handed)
                told.append("more")
                told[0] = "changed"
                self.assertEqual(repr(handed), as_it_was, name)
                told.clear()
                self.assertEqual(repr(handed), as_it_was, name)

    def test_a_second_call_tells_a_list_of_its_own(self):
        for n in (1, 2, 5, 40):
            row = tagged(steps(n))
            for function, handed in list(calls(n)) + [(unique, [row]), (merged, [row, []]), (either, [row, row]),
                                                      (both, [row, row]), (without, [row, []])]:
                with self.subTest(function=function.__name__, n=n):
                    told = function(*handed, by_tag)
                    as_it_was = repr(told)
                    for part in lists_in(told):
                        part.append("more")
                        part.reverse()
                    self.assertEqual(repr(function(*handed, by_tag)), as_it_was)

    def test_kinds_of_what_is_told(self):
        for n in SIZES:
            for function, handed in calls(n):
                told = function(*handed, by_tag)
                if function in TELLING_YES_OR_NO:
                    kind = bool
                elif function in TELLING_A_NUMBER:
                    kind = int
                else:
                    kind = tuple if function in TELLING_A_PAIR + TELLING_AN_ELEMENT else list
                self.assertIs(type(told), kind, function.__name__)
                if function is pop:
                    self.assertIs(type(told[1]), list)

    def test_only_what_was_handed_in_is_asked_of(self):
        for function, handed, order, name in asked_calls():
            function(*handed, order)
            there, second_there = may_be_asked(function, handed)
            self.assertLessEqual({id(first) for first, _ in order.questions}, there, name)
            self.assertLessEqual({id(second) for _, second in order.questions}, second_there, name)

    def test_each_call_ends_in_no_more_questions_than_told(self):
        for function, handed, order, name in asked_calls():
            function(*handed, order)
            self.assertLessEqual(order.count(), most_questions(function, handed), name)

    def test_answers_of_any_size_count_by_their_sign(self):
        for n in SIZES:
            for function, handed in calls(n):
                wanted = function(*handed, lambda a, b: sign(a[0] - b[0]))
                for factor in (2, 3, 10 ** 30, FAR):
                    told = function(*handed, lambda a, b: (a[0] - b[0]) * factor)
                    self.assertEqual(told, wanted, (function.__name__, n, factor.bit_length()))


class ManyDigitsTest(unittest.TestCase):
    """No point bounds a whole number: elements, keys and counts of more digits than Python writes as a text."""

    def setUp(self):
        self.row = [-FAR, -1, 0, FAR - 1, FAR]
        self.mixed = [FAR, 0, -FAR, FAR - 1, -1]

    def assert_told(self, told, wanted):
        self.assertTrue(told == wanted)

    def test_rows(self):
        self.assertEqual(ahead(self.row, by_number), 5)
        self.assertIs(in_order(self.mixed, by_number), False)
        self.assert_told(stable(self.mixed, by_number), self.row)
        self.assert_told(merged([-FAR, 0, FAR], [-1, FAR - 1], by_number), self.row)
        self.assert_told(unique([-FAR] + self.row + [FAR], by_number), self.row)
        self.assertEqual(lower(self.row, FAR, by_number), 4)
        self.assertEqual(upper(self.row, -FAR, by_number), 1)

    def test_sets(self):
        one = [-FAR, 0, FAR]
        other = [-1, 0, FAR]
        self.assert_told(either(one, other, by_number), [-FAR, -1, 0, FAR])
        self.assert_told(both(one, other, by_number), [0, FAR])
        self.assert_told(without(one, other, by_number), [-FAR])

    def test_heaps(self):
        heap = heaped(self.mixed, by_number)
        self.assertIs(is_heap(heap, by_number), True)
        first, others = pop(push(heap, -FAR - 1, by_number), by_number)
        self.assert_told(first, -FAR - 1)
        self.assert_told(sorted(others), self.row)

    def test_picks(self):
        self.assert_told(least(self.mixed, by_number), -FAR)
        self.assert_told(ends(self.mixed, by_number), (-FAR, FAR))
        self.assert_told(nth(self.mixed, 3, by_number), FAR - 1)
        self.assertEqual(turned_pairs(self.row[::-1], by_number), 10)
        self.assertEqual(rising(self.row, by_number), steps(5))

    def test_counts(self):
        for row in ([], [7], [3, 1, 2], steps(300)[::-1]):
            order = Asked(by_number)
            self.assertEqual(best(row, FAR, order), sorted(row))
            self.assertLessEqual(order.count(), len(row) * (log(len(row)) + 1))
            self.assertEqual(best(row, -FAR, by_number), [])
        self.assert_told(best(self.mixed, FAR, by_number), self.row)


class EveryKindTest(unittest.TestCase):
    """The answers hold True beside 1 and False beside 0, so they are compared with their kinds."""

    def setUp(self):
        self.row = inserted(EVERY_KIND, by_kind)
        self.bare = [element for place, element in enumerate(self.row)
                     if place == 0 or by_kind(self.row[place - 1], element) != 0]

    def assert_same(self, told, wanted):
        self.assertTrue(same(told, wanted), (told, wanted))

    def test_rows(self):
        self.assert_same(stable(EVERY_KIND, by_kind), self.row)
        self.assert_same(unique(self.row, by_kind), self.bare)
        self.assert_same(merged(self.row, self.bare, by_kind), inserted(self.row + self.bare, by_kind))
        self.assertEqual(ahead(self.row, by_kind), len(self.row))
        self.assertIs(in_order(self.row, by_kind), True)
        self.assertIs(in_order(EVERY_KIND, by_kind), False)

    def test_keys(self):
        for key in EVERY_KIND + [2, "aa", (0,), ((),), -1]:
            with self.subTest(key=key):
                self.assertEqual(lower(self.row, key, by_kind),
                                 sum(by_kind(element, key) < 0 for element in self.row))
                self.assertEqual(upper(self.row, key, by_kind),
                                 sum(by_kind(element, key) <= 0 for element in self.row))

    def test_sets(self):
        one = self.bare[::2]
        other = self.bare[1::2]
        self.assert_same(either(one, other, by_kind), self.bare)
        self.assert_same(both(one, other, by_kind), [])
        self.assert_same(without(one, other, by_kind), one)
        self.assert_same(both(one, self.bare, by_kind), one)
        self.assert_same(without(self.bare, one, by_kind), other)

    def popped(self, heap):
        """All that a heap holds, as it comes; each heap on the way is one."""
        told = []
        while heap:
            self.assertIs(is_heap(heap, by_kind), True)
            first, heap = pop(heap, by_kind)
            told.append(first)
        return told

    def test_heaps(self):
        heap = []
        for element in EVERY_KIND:
            heap = push(heap, element, by_kind)
        self.assert_same(self.popped(heap), self.row)
        self.assert_same(self.popped(heaped(EVERY_KIND, by_kind)), self.row)
        self.assertIs(is_heap(self.row, by_kind), True)
        self.assertIs(is_heap(EVERY_KIND, by_kind), False)

    def test_picks(self):
        n = len(EVERY_KIND)
        self.assert_same(least(EVERY_KIND, by_kind), self.row[0])
        self.assert_same(ends(EVERY_KIND, by_kind), (self.row[0], self.row[-1]))
        for many in range(n + 2):
            self.assert_same(best(EVERY_KIND, many, by_kind), self.row[:many])
        for place in range(n):
            self.assert_same(nth(EVERY_KIND, place, by_kind), self.row[place])
        self.assertEqual(turned_pairs(self.row, by_kind), 0)
        self.assertEqual(turned_pairs(self.bare[::-1], by_kind), len(self.bare) * (len(self.bare) - 1) // 2)
        self.assertEqual(rising(self.bare, by_kind), steps(len(self.bare)))
        self.assertEqual(len(rising(self.row, by_kind)), len(self.bare))

    def test_all_like(self):
        row = [None, True, 0, "a", (), 1, False]
        like = lambda first, second: 0
        self.assert_same(stable(row, like), row)
        self.assert_same(unique(row, like), [None])
        self.assert_same(merged(row, row[::-1], like), row + row[::-1])
        self.assert_same(best(row, 4, like), row[:4])
        self.assert_same(nth(row, 6, like), False)
        self.assertIsNone(least(row, like))
        self.assertEqual(len(rising(row, like)), 1)
        self.assertEqual(turned_pairs(row, like), 0)
        self.assertIs(is_heap(row, like), True)

    def test_the_same_object_many_times(self):
        row = [None] * 300
        like = lambda first, second: 0
        behind = lambda first, second: 1
        self.assert_same(stable(row, like), row)
        self.assert_same(stable([None] * 300, behind), row)
        self.assert_same(merged(row, row, like), row + row)
        self.assert_same(heaped(row, behind), row)
        self.assert_same(push(row, None, behind), row + [None])
        self.assert_same(pop(row, behind), (None, row[1:]))
        self.assert_same(best(row, 200, behind), row[:200])
        self.assertIsNone(least(row, like))
        self.assertEqual(ends(row, behind), (None, None))

    def test_rows_somewhat_beyond_the_bound(self):
        row = numbers(700, 50, 3)
        self.assertEqual(stable(row, by_number), sorted(row))
        self.assertEqual(merged(sorted(row), sorted(row), by_number), sorted(row + row))
        self.assertIs(is_heap(heaped(row, by_number), by_number), True)
        self.assertEqual(best(row, 650, by_number), sorted(row)[:650])
        self.assertEqual(nth(row, 650, by_number), sorted(row)[650])
        self.assertEqual(rising(steps(700), by_number), steps(700))
        self.assertEqual(turned_pairs(steps(700)[::-1], by_number), 350 * 699)


if __name__ == "__main__":
    unittest.main()
