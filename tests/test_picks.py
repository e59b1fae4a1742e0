"""Promises [40], [41], [42] and [43]: picks."""

import unittest
from collections import Counter
from itertools import combinations, permutations, product

from helper import (Asked, by_number, by_size, by_tag, by_text, inserted, log, no_orders, numbers, rows_of, scripted,
                    tagged)
from helper import rising as steps
from yourorder.errors import NoElement, NoPlace
from yourorder.picks import best, ends, least, nth, rising, turned_pairs

EVERY_SIZE = range(301)
SOME_SIZES = list(range(40)) + [63, 64, 65, 100, 127, 128, 129, 255, 256, 257, 299, 300]


def small_rows(most):
    for n in range(most + 1):
        for keys in product(range(3), repeat=n):
            yield tagged(keys)


def most_of_ends(n):
    return 3 * n // 2


def most_of_best(n, many):
    return n * (log(many + 1) + 1) if many else 0


def most_of_rising(n):
    return n * log(n + 1)


class LeastTest(unittest.TestCase):
    def check(self, row):
        order = Asked(by_tag)
        wanted = [element for element in row if all(by_tag(another, element) >= 0 for another in row)][0]
        self.assertIs(least(row, order), wanted)
        self.assertEqual(order.count(), len(row) - 1)

    def test_told(self):
        self.assertEqual(least([7], scripted([])), 7)
        self.assertEqual(least([3, 1, 2], by_number), 1)
        self.assertEqual(least(["b", "", "a"], by_text), "")
        self.assertEqual(least([31, 15, 11, 10, 25], by_size), 15)

    def test_the_first_of_like_ones(self):
        for row in small_rows(6):
            if row:
                self.check(row)

    def test_every_size(self):
        for n in range(1, 301):
            for row in (tagged(numbers(n, 3, n)), tagged(numbers(n, 500, n)), tagged([5] * n),
                        tagged(steps(n)), tagged(steps(n)[::-1])):
                order = Asked(by_tag)
                self.assertIs(least(row, order), min(row, key=lambda element: element[0]))
                self.assertEqual(order.count(), n - 1)

    def test_refused_of_an_empty_row(self):
        with self.assertRaises(NoElement):
            least([], scripted([]))

    def test_by_any_function(self):
        for n in range(1, 301):
            row = tagged(numbers(n, 7, n))
            for name, make in no_orders(n).items():
                order = Asked(make())
                self.assertIn(least(row, order), row, (name, n))
                self.assertEqual(order.count(), n - 1, (name, n))


class EndsTest(unittest.TestCase):
    def check(self, row):
        order = Asked(by_tag)
        told = ends(row, order)
        self.assertIs(type(told), tuple)
        first, last = told
        self.assertIn(first, row)
        self.assertIn(last, row)
        keys = [key for key, _ in row]
        self.assertEqual((first[0], last[0]), (min(keys), max(keys)))
        self.assertLessEqual(order.count(), most_of_ends(len(row)))

    def test_told(self):
        self.assertEqual(ends([7], by_number), (7, 7))
        self.assertEqual(ends([3, 1], by_number), (1, 3))
        self.assertEqual(ends([3, 1, 4, 1, 5], by_number), (1, 5))
        self.assertEqual(ends(["b", "", "a"], by_text), ("", "b"))

    def test_small_rows(self):
        for row in small_rows(6):
            if row:
                self.check(row)
        for n in range(1, 8):
            for keys in permutations(range(n)):
                self.check(tagged(keys))

    def test_every_size(self):
        for n in range(1, 301):
            for row in rows_of(n):
                self.check(row)

    def test_each_place_may_be_the_end(self):
        for n in (1, 2, 3, 10, 11):
            for low in range(n):
                for high in range(n):
                    keys = [5] * n
                    keys[high] = 9
                    keys[low] = 1
                    self.check(tagged(keys))

    def test_refused_of_an_empty_row(self):
        with self.assertRaises(NoElement):
            ends([], scripted([]))

    def test_by_any_function(self):
        for n in range(1, 301):
            row = tagged(numbers(n, 7, n))
            for name, make in no_orders(n).items():
                order = Asked(make())
                first, last = ends(row, order)
                self.assertIn(first, row, (name, n))
                self.assertIn(last, row, (name, n))
                self.assertLessEqual(order.count(), most_of_ends(n), (name, n))

    def test_every_way_to_answer(self):
        for n in range(1, 7):
            row = steps(n)
            for answers in product((-2, 0, 3), repeat=most_of_ends(n)):
                for told in ends(row, scripted(answers)):
                    self.assertIn(told, row)


class BestTest(unittest.TestCase):
    def check(self, row, many, in_order):
        order = Asked(by_tag)
        self.assertEqual(best(row, many, order), in_order[:many], (row, many))
        self.assertLessEqual(order.count(), most_of_best(len(row), many), (len(row), many))

    def test_told(self):
        self.assertEqual(best([4, 1, 3, 2], 2, by_number), [1, 2])
        self.assertEqual(best([4, 1, 3, 2], 9, by_number), [1, 2, 3, 4])
        self.assertEqual(best([25, 3, 21, 10, 9, 20, 1], 5, by_size), [3, 9, 1, 10, 25])
        self.assertEqual(best([], 3, scripted([])), [])

    def test_small_rows(self):
        for row in small_rows(6):
            in_order = inserted(row, by_tag)
            for many in range(len(row) + 3):
                self.check(row, many, in_order)

    def test_every_size(self):
        for n in EVERY_SIZE:
            for row in (tagged(numbers(n, 4, n)), tagged(numbers(n, 1000, n)), tagged(steps(n)[::-1])):
                in_order = sorted(row, key=lambda element: element[0])
                for many in (0, 1, 2, 3, n // 2, max(n - 1, 0), n, n + 1, n + 100):
                    self.check(row, many, in_order)

    def test_every_count(self):
        for n in (1, 2, 17, 64):
            for row in rows_of(n):
                in_order = inserted(row, by_tag)
                for many in range(n + 5):
                    self.check(row, many, in_order)

    def test_every_count_of_the_longest_row(self):
        for row in (tagged(numbers(300, 20, 1)), tagged(steps(300)[::-1])):
            in_order = inserted(row, by_tag)
            for many in range(303):
                self.check(row, many, in_order)

    def test_none_is_asked_of_a_count_of_0(self):
        for n in EVERY_SIZE:
            self.assertEqual(best(steps(n), 0, scripted([])), [])

    def test_a_count_below_0_is_not_refused(self):
        for n in (0, 1, 2, 30):
            for many in (-1, -2, -300):
                self.assertEqual(best(steps(n), many, scripted([])), [])

    def test_by_any_function(self):
        for n in list(range(0, 301, 7)) + [1, 2, 3, 128, 299, 300]:
            row = tagged(numbers(n, 7, n))
            for many in (0, 1, 2, 3, n // 2, n, n + 1):
                for name, make in no_orders(n).items():
                    order = Asked(make())
                    told = best(row, many, order)
                    self.assertEqual(len(told), min(many, n), (name, n, many))
                    self.assertFalse(Counter(told) - Counter(row), (name, n, many))
                    self.assertLessEqual(order.count(), most_of_best(n, many), (name, n, many))

    def test_no_more_often_than_in_the_row(self):
        row = [1, 1, 2, 3, 3, 3]
        for many in range(7):
            for name, make in no_orders(6).items():
                answer = make()
                told = best(row, many, lambda first, second: answer((first, 0), (second, 0)))
                self.assertEqual(len(told), many)
                self.assertFalse(Counter(told) - Counter(row), (name, many))

    def test_every_way_to_answer(self):
        for n in range(4):
            row = steps(n)
            for many in range(1, n + 2):
                for answers in product((-2, 3), repeat=most_of_best(n, many)):
                    told = best(row, many, scripted(answers))
                    self.assertEqual(len(told), min(many, n))
                    self.assertEqual(len(set(told)), len(told))
                    self.assertLessEqual(set(told), set(row))


class NthTest(unittest.TestCase):
    def test_told(self):
        self.assertEqual(nth([7], 0, scripted([])), 7)
        self.assertEqual(nth([3, 1, 2], 1, by_number), 2)
        self.assertEqual(nth([25, 3, 21, 10, 9], 4, by_size), 21)

    def test_small_rows(self):
        for row in small_rows(5):
            in_order = inserted(row, by_tag)
            for place in range(len(row)):
                self.assertIs(nth(row, place, by_tag), in_order[place])

    def test_every_place(self):
        for n in (1, 2, 3, 20, 33, 64):
            for row in rows_of(n):
                in_order = inserted(row, by_tag)
                for place in range(n):
                    order = Asked(by_tag)
                    self.assertIs(nth(row, place, order), in_order[place])
                    self.assertLessEqual(order.count(), n * log(n))

    def test_every_size(self):
        for n in range(1, 301):
            for row in (tagged(numbers(n, 4, n)), tagged(numbers(n, 1000, n))):
                in_order = sorted(row, key=lambda element: element[0])
                for place in {0, n // 2, n - 1}:
                    order = Asked(by_tag)
                    self.assertIs(nth(row, place, order), in_order[place])
                    self.assertLessEqual(order.count(), n * log(n))

    def test_refused_places(self):
        for n in (0, 1, 2, 30, 300):
            for place in (-1, -2, -n - 1, -n, n, n + 1, 10 ** 30, -10 ** 30):
                if not 0 <= place < n:
                    with self.subTest(n=n, place=place), self.assertRaises(NoPlace):
                        nth(steps(n), place, scripted([]))

    def test_by_any_function(self):
        for n in range(1, 301):
            row = tagged(numbers(n, 7, n))
            for name, make in no_orders(n).items():
                order = Asked(make())
                self.assertIn(nth(row, n * 2 // 3, order), row, (name, n))
                self.assertLessEqual(order.count(), n * log(n), (name, n))


class TurnedPairsTest(unittest.TestCase):
    def check(self, row):
        order = Asked(by_tag)
        wanted = sum(by_tag(first, second) > 0 for first, second in combinations(row, 2))
        self.assertEqual(turned_pairs(row, order), wanted, row)
        self.assertLessEqual(order.count(), len(row) * log(len(row)))

    def test_told(self):
        for row, wanted in (([], 0), ([5], 0), ([1, 2], 0), ([2, 2], 0), ([2, 1], 1), ([3, 2, 1], 3),
                            ([2, 3, 1], 2), ([2, 2, 1, 1], 4), ([1, 3, 2, 4], 1)):
            with self.subTest(row=row):
                self.assertEqual(turned_pairs(row, by_number), wanted)
        self.assertEqual(turned_pairs([25, 3, 21, 10, 9], by_size), 6)

    def test_small_rows(self):
        for row in small_rows(6):
            self.check(row)
        for n in range(7):
            for keys in permutations(range(n)):
                self.check(tagged(keys))

    def test_larger_rows(self):
        for n in SOME_SIZES:
            for row in rows_of(n):
                self.check(row)

    def test_counts_of_questions(self):
        for n in EVERY_SIZE:
            for row in rows_of(n):
                order = Asked(by_tag)
                turned_pairs(row, order)
                self.assertLessEqual(order.count(), n * log(n))

    def test_ends_of_what_can_be_told(self):
        for n in EVERY_SIZE:
            self.assertEqual(turned_pairs(steps(n), by_number), 0)
            self.assertEqual(turned_pairs(steps(n)[::-1], by_number), n * (n - 1) // 2)

    def test_by_any_function(self):
        for n in EVERY_SIZE:
            row = tagged(numbers(n, 7, n))
            for name, make in no_orders(n).items():
                order = Asked(make())
                told = turned_pairs(row, order)
                self.assertIs(type(told), int, (name, n))
                self.assertIn(told, range(n * (n - 1) // 2 + 1), (name, n))
                self.assertLessEqual(order.count(), n * log(n), (name, n))

    def test_every_way_to_answer(self):
        for n in range(1, 5):
            for answers in product((-2, 0, 3), repeat=n * log(n)):
                self.assertIn(turned_pairs(steps(n), scripted(answers)), range(n * (n - 1) // 2 + 1))


def longest_length(row, order):
    """A plain search: of each place, the most that can end there."""
    lengths = []
    for place, element in enumerate(row):
        lengths.append(1 + max((lengths[k] for k in range(place) if order(row[k], element) < 0), default=0))
    return max(lengths, default=0)


def longest_of_all(row, order):
    """A plainer one: the most of all choices of places."""
    for many in range(len(row), 0, -1):
        for chosen in combinations(row, many):
            if all(order(chosen[k], chosen[k + 1]) < 0 for k in range(many - 1)):
                return many
    return 0


class RisingTest(unittest.TestCase):
    def check(self, row, search=longest_length):
        order = Asked(by_tag)
        told = rising(row, order)
        self.assertEqual(len(told), search(row, by_tag), row)
        self.assert_places(told, len(row))
        for k in range(len(told) - 1):
            self.assertGreater(by_tag(row[told[k + 1]], row[told[k]]), 0)
        self.assertLessEqual(order.count(), most_of_rising(len(row)))

    def assert_places(self, told, n, name=None):
        self.assertIs(type(told), list, name)
        self.assertEqual(told, sorted(set(told)), name)
        for place in told:
            self.assertIs(type(place), int, name)
            self.assertIn(place, range(n), name)

    def test_told(self):
        for row, wanted in (([], []), ([5], [0]), ([1, 2], [0, 1]), ([3, 1, 2], [1, 2]), ([5, 1, 5, 2, 6, 3, 4],
                            [1, 3, 5, 6])):
            with self.subTest(row=row):
                self.assertEqual(rising(row, by_number), wanted)
        self.assertEqual(len(rising([2, 2, 2], by_number)), 1)
        self.assertEqual(len(rising([2, 1], by_number)), 1)
        self.assertEqual(len(rising([11, 15, 19, 20, 29, 35], by_size)), 3)

    def test_small_rows(self):
        for row in small_rows(6):
            self.check(row, longest_of_all)
        for n in range(7):
            for keys in permutations(range(n)):
                self.check(tagged(keys), longest_of_all)

    def test_larger_rows(self):
        for n in SOME_SIZES:
            for row in rows_of(n):
                self.check(row)

    def test_counts_of_questions(self):
        for n in EVERY_SIZE:
            for row in rows_of(n):
                order = Asked(by_tag)
                rising(row, order)
                self.assertLessEqual(order.count(), most_of_rising(n))

    def test_by_any_function(self):
        for n in list(range(0, 301, 3)) + [1, 2, 127, 128, 255, 256, 299]:
            row = tagged(numbers(n, 7, n))
            for name, make in no_orders(n).items():
                order = Asked(make())
                self.assert_places(rising(row, order), n, (name, n))
                self.assertLessEqual(order.count(), most_of_rising(n), (name, n))

    def test_every_way_to_answer(self):
        for n in range(5):
            for answers in product((-2, 3), repeat=most_of_rising(n)):
                self.assert_places(rising(steps(n), scripted(answers)), n)


if __name__ == "__main__":
    unittest.main()
