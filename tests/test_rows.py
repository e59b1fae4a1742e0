"""Promises [10], [11] and [12]: rows."""

import unittest
from itertools import product

from helper import (Asked, by_number, by_size, by_tag, by_text, inserted, is_in_turn, late_fall, log, no_orders,
                    numbers, rising, scripted, tagged)
from yourorder.rows import ahead, in_order, lower, merged, stable, unique, upper

EVERY_SIZE = range(301)


def neighbours(row):
    return [(row[place], row[place + 1]) for place in range(len(row) - 1)]


def one_fall(n, place):
    """In order but for the one at the place, which stands behind the next one."""
    row = rising(n)
    row[place], row[place + 1] = row[place + 1], row[place]
    return row


class AheadTest(unittest.TestCase):
    def test_told(self):
        for row, wanted in (([], 0), ([5], 1), ([1, 2], 2), ([2, 2], 2), ([2, 1], 1), ([1, 3, 2], 2), ([3, 2, 1], 1),
                            ([1, 1, 1, 0, 5, 4], 3), ([1, 2, 3, 4], 4), ([0, 9, 3, 4], 2)):
            with self.subTest(row=row):
                self.assertEqual(ahead(row, by_number), wanted)
                self.assertIs(in_order(row, by_number), wanted == len(row))

    def test_of_a_row_in_order_every_neighbours_are_asked_once(self):
        for n in EVERY_SIZE:
            row = tagged(rising(n))
            for function in (ahead, in_order):
                order = Asked(by_tag)
                self.assertEqual(function(row, order), n if function is ahead else True)
                self.assertEqual(order.questions, neighbours(row))

    def test_no_more_is_asked_than_wanted(self):
        for n in (2, 3, 10, 300):
            for place in range(n - 1):
                row = one_fall(n, place)
                for function in (ahead, in_order):
                    order = Asked(by_number)
                    self.assertEqual(function(row, order), place + 1 if function is ahead else False)
                    self.assertEqual(order.questions, neighbours(row)[:place + 1])

    def test_by_any_function(self):
        for n in EVERY_SIZE:
            row = tagged(numbers(n, 7, n))
            for name, make in no_orders(n).items():
                order = Asked(make())
                told = ahead(row, order)
                self.assertIn(told, range(n + 1), (name, n))
                self.assertEqual(order.questions, neighbours(row)[:told], (name, n))
            self.assertEqual(ahead(row, lambda first, second: 1), min(n, 1))
            self.assertEqual(ahead(row, lambda first, second: 0), n)
            self.assertEqual(ahead(row, lambda first, second: -1), n)


class StableTest(unittest.TestCase):
    def test_told(self):
        self.assertEqual(stable([], by_number), [])
        self.assertEqual(stable([4], by_number), [4])
        self.assertEqual(stable([2, 1], by_number), [1, 2])
        self.assertEqual(stable(["b", "", "a", "B", "b"], by_text), ["", "B", "a", "b", "b"])
        self.assertEqual(stable([25, 3, 21, 10, 9, 20, 1], by_size), [3, 9, 1, 10, 25, 21, 20])

    def test_every_small_row(self):
        for n in range(6):
            for keys in product(range(3), repeat=n):
                row = tagged(keys)
                self.assertEqual(stable(row, by_tag), inserted(row, by_tag))

    def test_against_plain_insertion_with_many_like_ones(self):
        for n in list(range(0, 301, 13)) + [255, 256, 257, 300]:
            for below in (1, 2, 5, 40, 1000):
                row = tagged(numbers(n, below, n + below))
                self.assertEqual(stable(row, by_tag), inserted(row, by_tag))

    def test_counts_of_questions_by_orders(self):
        for n in EVERY_SIZE:
            rows = [rising(n), rising(n)[::-1], numbers(n, 5, n), numbers(n, 1000, n)]
            if n >= 2:
                rows += [one_fall(n, n - 2), one_fall(n, 0), rising(n)[1:] + [0]]
            for row in rows:
                order = Asked(by_number)
                self.assertEqual(stable(row, order), sorted(row))
                self.assertLessEqual(order.count(), n * log(n))

    def test_a_row_in_order_costs_n_less_1(self):
        for n in EVERY_SIZE:
            for row in (rising(n), [4] * n, sorted(numbers(n, 6, n))):
                order = Asked(by_number)
                self.assertEqual(stable(row, order), row)
                self.assertEqual(order.count(), max(n - 1, 0))

    def test_none_or_one_is_asked_nothing(self):
        for row in ([], ["a"]):
            self.assertEqual(stable(row, scripted([])), row)

    def test_by_any_function(self):
        for n in EVERY_SIZE:
            row = tagged(numbers(n, 7, n))
            for name, make in no_orders(n).items():
                order = Asked(make())
                told = stable(row, order)
                self.assertEqual(sorted(told), sorted(row), (name, n))
                self.assertLessEqual(order.count(), n * log(n), (name, n))

    def test_like_elements_as_often_as_they_were_there(self):
        for n in (0, 1, 2, 5, 100, 300):
            keys = numbers(n, 4, n)
            row = [(key,) for key in keys]
            for name, make in no_orders(n).items():
                self.assertEqual(sorted(stable(row, make())), sorted(row), (name, n))

    def test_every_way_to_answer(self):
        # The script holds just as many answers as may be asked for: one more question would fail.
        for n in range(5):
            row = tagged(rising(n))
            for answers in product((-2, 0, 3), repeat=n * log(n)):
                self.assertEqual(sorted(stable(row, scripted(answers))), row)

    def test_the_dearest_answers(self):
        for n in (2, 4, 8, 16, 32, 64, 128, 256):
            order = Asked(late_fall(n))
            stable(tagged(rising(n)), order)
            self.assertLessEqual(order.count(), n * log(n))


class MergedTest(unittest.TestCase):
    def test_told(self):
        self.assertEqual(merged([1, 4, 6], [2, 4, 9], by_number), [1, 2, 4, 4, 6, 9])
        self.assertEqual(merged([11, 25], [3, 14, 15, 21], by_size), [3, 11, 14, 15, 25, 21])

    def test_every_two_small_rows(self):
        rows = [list(keys) for n in range(5) for keys in product(range(3), repeat=n) if list(keys) == sorted(keys)]
        for keys in rows:
            for other_keys in rows:
                one = tagged(keys)
                other = tagged(other_keys, "other")
                self.assertEqual(merged(one, other, by_tag), inserted(one + other, by_tag))

    def test_counts_of_questions(self):
        for n in range(0, 301, 20):
            for m in (0, 1, 2, 19, 150, 300):
                for step in (1, 2):
                    one = tagged(rising(n, 2))
                    other = tagged(rising(m, step, 1), "other")
                    order = Asked(by_tag)
                    self.assertEqual(merged(one, other, order), inserted(one + other, by_tag))
                    self.assertLessEqual(order.count(), n + m - 1 if n and m else 0)

    def test_nothing_is_asked_if_one_has_none(self):
        for n in EVERY_SIZE:
            row = rising(n)
            self.assertEqual(merged(row, [], scripted([])), row)
            self.assertEqual(merged([], row, scripted([])), row)

    def test_by_any_function(self):
        for n, m in ((0, 0), (0, 7), (7, 0), (1, 1), (1, 2), (2, 1), (5, 9), (40, 3), (150, 149), (300, 300)):
            one = tagged(numbers(n, 7, n))
            other = tagged(numbers(m, 7, m + 1), "other")
            for name, make in no_orders(n).items():
                order = Asked(make())
                told = merged(one, other, order)
                self.assertEqual(sorted(told), sorted(one + other), (name, n, m))
                self.assertTrue(is_in_turn(one, told), (name, n, m))
                self.assertTrue(is_in_turn(other, told), (name, n, m))
                self.assertLessEqual(order.count(), n + m - 1 if n and m else 0, (name, n, m))

    def test_every_way_to_answer(self):
        for n in range(1, 5):
            for m in range(1, 5):
                one = tagged(rising(n))
                other = tagged(rising(m), "other")
                for answers in product((-2, 0, 3), repeat=n + m - 1):
                    told = merged(one, other, scripted(answers))
                    self.assertEqual(sorted(told), sorted(one + other))


class UniqueTest(unittest.TestCase):
    def test_told(self):
        for row, wanted in (([], []), ([3], [3]), ([3, 3], [3]), ([1, 1, 2, 2, 2, 3], [1, 2, 3]),
                            ([2, 1, 2, 2, 1], [2, 1, 2, 1])):
            with self.subTest(row=row):
                self.assertEqual(unique(row, by_number), wanted)
        self.assertEqual(unique([11, 15, 10, 20, 29, 3], by_size), [11, 20, 3])

    def test_asked_of_the_one_kept_and_the_next(self):
        for n in EVERY_SIZE:
            row = tagged(sorted(numbers(n, n // 3 + 1, n)))
            wanted = []
            questions = []
            for element in row:
                if wanted:
                    questions.append((wanted[-1], element))
                if not wanted or wanted[-1][0] != element[0]:
                    wanted.append(element)
            order = Asked(by_tag)
            self.assertEqual(unique(row, order), wanted)
            self.assertEqual(order.questions, questions)
            self.assertEqual(order.count(), max(n - 1, 0))

    def test_by_any_function(self):
        for n in EVERY_SIZE:
            row = tagged(numbers(n, 7, n))
            for name, make in no_orders(n).items():
                order = Asked(make())
                told = unique(row, order)
                self.assertTrue(is_in_turn(told, row), (name, n))
                self.assertEqual(told[:1], row[:1], (name, n))
                self.assertEqual(order.count(), max(n - 1, 0), (name, n))
                self.assertEqual([second for _, second in order.questions], row[1:], (name, n))
            self.assertEqual(unique(row, lambda first, second: 1), row)
            self.assertEqual(unique(row, lambda first, second: -1), row)
            self.assertEqual(unique(row, lambda first, second: 0), row[:1])


class LowerAndUpperTest(unittest.TestCase):
    def check(self, row, key, answer):
        for function, counts in ((lower, lambda number: number < 0), (upper, lambda number: number <= 0)):
            order = Asked(answer)
            self.assertEqual(function(row, key, order), sum(counts(answer(element, key)) for element in row))
            self.assertLessEqual(order.count(), log(len(row) + 1))
            for _, second in order.questions:
                self.assertIs(second, key)

    def test_told(self):
        row = [2, 4, 4, 4, 7]
        for key, low, high in ((1, 0, 0), (2, 0, 1), (3, 1, 1), (4, 1, 4), (5, 4, 4), (7, 4, 5), (8, 5, 5)):
            with self.subTest(key=key):
                self.assertEqual(lower(row, key, by_number), low)
                self.assertEqual(upper(row, key, by_number), high)
        self.assertEqual(lower([], 3, scripted([])), 0)
        self.assertEqual(upper([], 3, scripted([])), 0)

    def test_every_key_of_every_size(self):
        for n in list(range(70)) + [127, 128, 129, 255, 256, 257, 300]:
            row = rising(n, 2)
            for number in range(-1, 2 * n + 1):
                self.check(row, number, by_number)

    def test_many_like_ones(self):
        for n in EVERY_SIZE:
            row = tagged(sorted(numbers(n, 5, n)))
            for key in range(-1, 6):
                self.check(row, (key, "key"), by_tag)

    def test_asked_of_an_element_and_the_key(self):
        # A key of another kind than the elements: turned about, the function couldn't answer.
        row = rising(300, 3)
        for number in range(-2, 905):
            by_key = lambda element, key: element - int(key)
            self.assertEqual(lower(row, str(number), by_key), sum(element < number for element in row))
            self.assertEqual(upper(row, str(number), by_key), sum(element <= number for element in row))

    def test_by_any_function(self):
        for n in EVERY_SIZE:
            row = tagged(numbers(n, 7, n))
            for function in (lower, upper):
                for name, make in no_orders(n).items():
                    order = Asked(make())
                    self.assertIn(function(row, (3, "key"), order), range(n + 1), (name, n))
                    self.assertLessEqual(order.count(), log(n + 1), (name, n))
                self.assertEqual(function(row, (3, "key"), lambda first, second: -1), n)
                self.assertEqual(function(row, (3, "key"), lambda first, second: 1), 0)
            self.assertEqual(lower(row, (3, "key"), lambda first, second: 0), 0)
            self.assertEqual(upper(row, (3, "key"), lambda first, second: 0), n)

    def test_every_way_to_answer(self):
        for n in range(40):
            for answers in product((-2, 0, 3), repeat=log(n + 1)):
                self.assertIn(lower(rising(n), 5, scripted(answers)), range(n + 1))
                self.assertIn(upper(rising(n), 5, scripted(answers)), range(n + 1))


if __name__ == "__main__":
    unittest.main()
