"""Promises [30], [31], [32] and [33]: heaps."""

import unittest
from itertools import permutations, product

from helper import (Asked, by_number, by_size, by_tag, inserted, log, no_orders, numbers, rising, rows_of, scripted,
                    sign, tagged, told_in_turn)
from yourorder.errors import NoElement
from yourorder.heaps import heaped, is_heap, pop, push

EVERY_SIZE = range(301)


def looks_like_a_heap(row, order):
    """A plain look at every place."""
    return all(order(row[k], row[(k - 1) // 2]) >= 0 for k in range(1, len(row)))


def dear_heaps(n):
    """Heaps from which a pop goes all the way down: in order, the last element stands behind all others."""
    yield rising(n)
    yield [log(place + 2) for place in range(n)]


class IsHeapTest(unittest.TestCase):
    def test_told(self):
        for row, wanted in (([], True), ([3], True), ([1, 2], True), ([2, 1], False), ([1, 1, 1], True),
                            ([1, 3, 2], True), ([1, 2, 0], False), ([1, 5, 2, 6, 5, 3, 2], True),
                            ([1, 5, 2, 6, 4, 3, 2], False), ([1, 5, 2, 6, 5, 3, 1], False)):
            with self.subTest(row=row):
                self.assertIs(is_heap(row, by_number), wanted)
        self.assertIs(is_heap([12, 10, 19, 20], by_size), True)
        self.assertIs(is_heap([12, 9], by_size), False)

    def test_every_small_row(self):
        for n in range(8):
            for row in product(range(3), repeat=n):
                self.assertIs(is_heap(list(row), by_number), looks_like_a_heap(row, by_number))

    def test_one_place_out_of_a_heap(self):
        for n in (2, 3, 4, 15, 16, 299, 300):
            for place in range(1, n):
                row = [10] * n
                row[place] = 9
                self.assertIs(is_heap(row, by_number), False, (n, place))
                row[place] = 11
                below = 2 * place + 1 < n
                self.assertIs(is_heap(row, by_number), not below, (n, place))

    def test_counts_of_questions(self):
        for n in EVERY_SIZE:
            for row in rows_of(n):
                order = Asked(by_tag)
                self.assertIs(is_heap(row, order), looks_like_a_heap(row, by_tag))
                self.assertLessEqual(order.count(), max(n - 1, 0))

    def test_by_any_function(self):
        for n in EVERY_SIZE:
            row = tagged(numbers(n, 7, n))
            for name, make in no_orders(n).items():
                order = Asked(make())
                self.assertIn(is_heap(row, order), (True, False), (name, n))
                self.assertLessEqual(order.count(), max(n - 1, 0), (name, n))


class PushTest(unittest.TestCase):
    def check(self, heap, new):
        order = Asked(by_tag)
        told = push(heap, new, order)
        self.assertTrue(looks_like_a_heap(told, by_tag), (heap, new))
        self.assertEqual(sorted(told), sorted(heap + [new]))
        self.assertLessEqual(order.count(), log(len(heap) + 1))
        return told

    def test_told(self):
        self.assertEqual(push([], 4, scripted([])), [4])
        self.assertEqual(push([4], 6, by_number), [4, 6])
        self.assertEqual(push([4], 2, by_number), [2, 4])

    def test_every_small_heap(self):
        for n in range(7):
            for keys in product(range(3), repeat=n):
                if looks_like_a_heap(keys, by_number):
                    for new in (-1, 0, 1, 2, 3):
                        self.check(tagged(keys), (new, "new"))

    def test_pushed_one_by_one(self):
        for row in rows_of(300):
            heap = []
            for element in row:
                heap = self.check(heap, element)
            self.assertEqual(sorted(heap), sorted(row))

    def test_to_the_front_and_to_the_end(self):
        for n in EVERY_SIZE:
            heap = tagged(rising(n))
            self.assertEqual(self.check(heap, (-1, "new"))[0], (-1, "new"))
            self.assertEqual(self.check(heap, (n, "new"))[-1], (n, "new"))
            self.check(heap, (n // 2, "new"))

    def test_by_any_function(self):
        for n in EVERY_SIZE:
            row = tagged(numbers(n, 7, n))
            for name, make in no_orders(n).items():
                order = Asked(make())
                told = push(row, (3, "new"), order)
                self.assertEqual(sorted(told), sorted(row + [(3, "new")]), (name, n))
                self.assertLessEqual(order.count(), log(n + 1), (name, n))

    def test_every_way_to_answer(self):
        for n in range(33):
            row = rising(n)
            for answers in product((-2, 0, 3), repeat=log(n + 1)):
                self.assertEqual(sorted(push(row, n, scripted(answers))), row + [n])


class PopTest(unittest.TestCase):
    def check(self, heap, answer):
        order = Asked(answer)
        told = pop(heap, order)
        self.assertIs(type(told), tuple)
        self.assertEqual(len(told), 2)
        first, others = told
        self.assertIs(first, heap[0])
        self.assertEqual(sorted([first] + others), sorted(heap))
        self.assertLessEqual(order.count(), 2 * log(len(heap)))
        return others

    def test_told(self):
        self.assertEqual(pop([4], scripted([])), (4, []))
        self.assertEqual(pop([4, 6], scripted([])), (4, [6]))
        self.assertEqual(pop([4, 6, 5], by_number), (4, [5, 6]))

    def test_refused_of_an_empty_heap(self):
        with self.assertRaises(NoElement):
            pop([], scripted([]))

    def test_every_small_heap(self):
        for n in range(1, 8):
            for keys in product(range(3), repeat=n):
                if looks_like_a_heap(keys, by_number):
                    others = self.check(tagged(keys), by_tag)
                    self.assertTrue(looks_like_a_heap(others, by_tag), keys)

    def test_popped_to_the_end_all_come_in_order(self):
        for n in list(range(0, 70)) + [127, 128, 129, 255, 256, 257, 300]:
            for row in rows_of(n):
                heap = heaped(row, by_tag)
                keys = []
                while heap:
                    keys.append(heap[0][0])
                    heap = self.check(heap, by_tag)
                    self.assertTrue(looks_like_a_heap(heap, by_tag))
                self.assertEqual(keys, sorted(key for key, _ in row))

    def test_the_dearest_heaps(self):
        for n in range(1, 301):
            for heap in dear_heaps(n):
                others = self.check(tagged(heap), by_tag)
                self.assertTrue(looks_like_a_heap(others, by_tag))

    def test_by_any_function(self):
        for n in range(1, 301):
            row = tagged(numbers(n, 7, n))
            for name, make in no_orders(n).items():
                with self.subTest(name=name, n=n):
                    self.check(row, make())

    def test_every_way_to_answer(self):
        for n in range(1, 17):
            for answers in product((-2, 3), repeat=2 * log(n)):
                self.check(rising(n), scripted(answers))
        for n in range(1, 9):
            for answers in product((-2, 0, 3), repeat=2 * log(n)):
                self.check(rising(n), scripted(answers))


class HeapedTest(unittest.TestCase):
    def check(self, row):
        order = Asked(by_tag)
        told = heaped(row, order)
        self.assertTrue(looks_like_a_heap(told, by_tag), row)
        self.assertEqual(sorted(told), sorted(row))
        self.assertLessEqual(order.count(), 2 * len(row))

    def test_told(self):
        self.assertEqual(heaped([], scripted([])), [])
        self.assertEqual(heaped([4], scripted([])), [4])
        self.assertEqual(heaped([6, 4], by_number), [4, 6])
        self.assertEqual(heaped([3, 2, 1], by_number)[0], 1)

    def test_every_small_row(self):
        for n in range(7):
            for keys in product(range(3), repeat=n):
                self.check(tagged(keys))
        for n in range(8):
            for keys in permutations(range(n)):
                self.check(tagged(keys))

    def test_every_size(self):
        for n in EVERY_SIZE:
            for row in rows_of(n):
                self.check(row)

    def test_answers_count_by_their_sign(self):
        row = tagged(numbers(300, 40, 9))
        plain = heaped(row, lambda first, second: sign(by_tag(first, second)))
        self.assertEqual(heaped(row, lambda first, second: by_tag(first, second) * 10 ** 30), plain)

    def test_by_any_function(self):
        for n in EVERY_SIZE:
            row = tagged(numbers(n, 7, n))
            for name, make in no_orders(n).items():
                order = Asked(make())
                self.assertEqual(sorted(heaped(row, order)), sorted(row), (name, n))
                self.assertLessEqual(order.count(), 2 * n, (name, n))

    def test_every_way_to_answer(self):
        for n in range(8):
            for answers in product((-2, 3), repeat=2 * n):
                self.assertEqual(sorted(heaped(rising(n), scripted(answers))), rising(n))
        for n in range(5):
            for answers in product((-2, 0, 3), repeat=2 * n):
                self.assertEqual(sorted(heaped(rising(n), scripted(answers))), rising(n))


class HeapsTogetherTest(unittest.TestCase):
    def test_long_drawn_turns(self):
        for below in (3, 1000):
            heap = []
            plain = []
            for turn, number in enumerate(numbers(900, below, below)):
                if number % 3 == 0 and heap:
                    first, heap = pop(heap, by_tag)
                    self.assertEqual(first[0], min(plain)[0])
                    plain.remove(first)
                else:
                    heap = push(heap, (number, turn), by_tag)
                    plain.append((number, turn))
                self.assertEqual(sorted(heap), sorted(plain))
                self.assertIs(is_heap(heap, by_tag), True)

    def test_heaps_by_the_turned_order(self):
        turned = lambda first, second: by_tag(second, first)
        row = tagged(numbers(100, 30, 1))
        heap = heaped(row, turned)
        keys = []
        while heap:
            first, heap = pop(heap, turned)
            keys.append(first[0])
        self.assertEqual(keys, [key for key, _ in inserted(row, turned)])

    def test_nothing_is_lost_however_long_it_is_answered_otherwise(self):
        order = told_in_turn([0, 5, -5, 5, 0, 0, -1, -2])
        heap = []
        for element in tagged(numbers(200, 9, 2)):
            heap = push(heap, element, order)
        popped = []
        while heap:
            first, heap = pop(heap, order)
            popped.append(first)
        self.assertEqual(sorted(popped), sorted(tagged(numbers(200, 9, 2))))


if __name__ == "__main__":
    unittest.main()
