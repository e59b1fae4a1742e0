"""Promises [20], [21] and [22]: rows as sets."""

import unittest
from itertools import product

from helper import Asked, by_number, by_size, by_tag, inserted, is_in_turn, no_orders, numbers, rising, scripted, tagged
from yourorder.sets import both, either, without

SETS = (either, both, without)
PAIRS_OF_SIZES = ((0, 0), (0, 1), (1, 0), (1, 1), (1, 2), (2, 1), (2, 2), (5, 9), (40, 3), (3, 40), (150, 149),
                  (1, 300), (300, 1), (300, 300))


def has_like(row, element):
    return any(by_tag(element, another) == 0 for another in row)


def looked_for(function, one, other):
    """What is to be told, by plain looking for like ones."""
    if function is both:
        return [element for element in one if has_like(other, element)]
    if function is without:
        return [element for element in one if not has_like(other, element)]
    return inserted(one + [element for element in other if not has_like(one, element)], by_tag)


def most(one, other):
    return len(one) + len(other) - 1 if one and other else 0


class SetsTest(unittest.TestCase):
    def check(self, one, other):
        for function in SETS:
            order = Asked(by_tag)
            self.assertEqual(function(one, other, order), looked_for(function, one, other))
            self.assertLessEqual(order.count(), most(one, other))

    def test_told(self):
        self.assertEqual(either([1, 3, 5], [2, 3, 9], by_number), [1, 2, 3, 5, 9])
        self.assertEqual(both([1, 3, 5, 9], [2, 3, 9], by_number), [3, 9])
        self.assertEqual(without([1, 3, 5, 9], [2, 3, 9], by_number), [1, 5])

    def test_of_like_ones_the_first_rows(self):
        self.assertEqual(either([11, 25, 40], [3, 14, 29, 31], by_size), [3, 11, 25, 31, 40])
        self.assertEqual(both([11, 25, 40], [3, 14, 29, 31], by_size), [11, 25])
        self.assertEqual(without([11, 25, 40], [3, 14, 29, 31], by_size), [40])

    def test_every_two_small_rows(self):
        rows = [[key for key in range(5) if chosen[key]] for chosen in product((False, True), repeat=5)]
        for keys in rows:
            for other_keys in rows:
                self.check(tagged(keys), tagged(other_keys, "other"))

    def test_larger_rows(self):
        for n, m in PAIRS_OF_SIZES:
            for seed in range(3):
                keys = sorted(set(numbers(n, 2 * n + 1, seed)))
                other_keys = sorted(set(numbers(m, 2 * m + 1, seed + 9)))
                self.check(tagged(keys), tagged(other_keys, "other"))
            for step, start in ((1, 0), (2, 1), (1, n), (1, -m)):
                self.check(tagged(rising(n, step)), tagged(rising(m, step, start), "other"))

    def test_counts_of_rows_that_lie_between_each_other(self):
        for n in range(1, 301):
            for m in (n - 1, n, n + 1):
                one = tagged(rising(n, 2))
                other = tagged(rising(m, 2, 1), "other")
                for function in SETS:
                    order = Asked(by_tag)
                    function(one, other, order)
                    self.assertLessEqual(order.count(), most(one, other))

    def test_nothing_is_asked_if_one_has_none(self):
        for n in range(301):
            row = rising(n)
            nothing = scripted([])
            self.assertEqual(either(row, [], nothing), row)
            self.assertEqual(either([], row, nothing), row)
            self.assertEqual(both(row, [], nothing), [])
            self.assertEqual(both([], row, nothing), [])
            self.assertEqual(without(row, [], nothing), row)
            self.assertEqual(without([], row, nothing), [])

    def test_a_row_with_itself(self):
        for n in (0, 1, 2, 3, 50, 300):
            row = tagged(rising(n))
            self.check(row, row)
            self.assertEqual(either(row, row, by_tag), row)
            self.assertEqual(both(row, row, by_tag), row)
            self.assertEqual(without(row, row, by_tag), [])


class NoOrderTest(unittest.TestCase):
    def check(self, one, other, make, name):
        told = {}
        for function in SETS:
            order = Asked(make())
            told[function] = function(one, other, order)
            self.assertLessEqual(order.count(), most(one, other), name)
        from_other = [element for element in told[either] if element[1].startswith("other")]
        self.assertEqual([element for element in told[either] if not element[1].startswith("other")], one, name)
        self.assertTrue(is_in_turn(from_other, other), name)
        self.assertTrue(is_in_turn(told[both], one), name)
        self.assertTrue(is_in_turn(told[without], one), name)
        self.assertEqual(sorted(told[both] + told[without]), sorted(one), name)

    def test_by_any_function(self):
        for n, m in PAIRS_OF_SIZES:
            one = tagged(numbers(n, 7, n))
            other = tagged(numbers(m, 7, m + 1), "other")
            for name, make in no_orders(n).items():
                self.check(one, other, make, (name, n, m))

    def test_every_way_to_answer(self):
        for n in range(4):
            for m in range(4):
                one = tagged(rising(n))
                other = tagged(rising(m), "other")
                for answers in product((-2, 0, 3), repeat=most(one, other)):
                    self.check(one, other, lambda: scripted(answers), answers)

    def test_the_same_answer_always(self):
        one = tagged(rising(5))
        other = tagged(rising(3), "other")
        self.assertEqual(either(one, other, lambda first, second: 1), other + one)
        self.assertEqual(either(one, other, lambda first, second: -1), one + other)
        self.assertEqual(sorted(both(one, other, lambda first, second: 1)), [])
        self.assertEqual(without(one, other, lambda first, second: 1), one)
        self.assertEqual(both(one, other, lambda first, second: -1), [])
        self.assertEqual(without(one, other, lambda first, second: -1), one)


if __name__ == "__main__":
    unittest.main()
