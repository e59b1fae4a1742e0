"""Promise [2]: the classes, and where they are raised."""

import unittest

from helper import FAR, Asked, by_number, by_tag, rising, scripted, tagged
from yourorder.errors import NoElement, NoPlace, OrderError
from yourorder.heaps import pop
from yourorder.maps import Map
from yourorder.picks import best, ends, least, nth


class ErrorsTest(unittest.TestCase):
    def test_order_error_stands_under_value_error(self):
        self.assertTrue(issubclass(OrderError, ValueError))
        with self.assertRaises(ValueError):
            raise OrderError("refused")

    def test_refusals_stand_under_order_error(self):
        for refusal in (NoElement, NoPlace):
            with self.subTest(refusal=refusal):
                self.assertTrue(issubclass(refusal, OrderError))
                self.assertIsNot(refusal, OrderError)
                with self.assertRaises(OrderError):
                    raise refusal("refused")

    def test_no_refusal_stands_under_another(self):
        self.assertFalse(issubclass(NoElement, NoPlace))
        self.assertFalse(issubclass(NoPlace, NoElement))
        self.assertFalse(issubclass(OrderError, NoElement))
        self.assertFalse(issubclass(OrderError, NoPlace))

    def test_str_is_the_text_that_it_was_made_of(self):
        for refusal in (OrderError, NoElement, NoPlace):
            for text in ("", " ", "there is no element", "place 7\nof 3", "'quoted'", "{name}"):
                with self.subTest(refusal=refusal, text=text):
                    self.assertEqual(str(refusal(text)), text)

    def test_names(self):
        self.assertEqual([kind.__name__ for kind in (OrderError, NoElement, NoPlace)],
                         ["OrderError", "NoElement", "NoPlace"])


class RaisedTest(unittest.TestCase):
    """What is refused raises its class and no other one, changes nothing, and asks no question (but get)."""

    def refused(self, refusal, ask):
        with self.assertRaises(ValueError) as caught:
            ask()
        self.assertIs(type(caught.exception), refusal)
        self.assertIs(type(str(caught.exception)), str)
        self.assertEqual(caught.exception.args, (str(caught.exception),))

    def test_of_what_is_empty(self):
        for function in (pop, least, ends):
            with self.subTest(function=function.__name__):
                empty = []
                self.refused(NoElement, lambda: function(empty, scripted([])))
                self.assertEqual(empty, [])

    def test_nth_of_places_that_are_not_there(self):
        for n in (0, 1, 2, 3, 150, 300):
            row = rising(n)[::-1]
            for place in (-10 ** 20, -n - 1, -1, n, n + 1, n + 300, 10 ** 20):
                with self.subTest(n=n, place=place):
                    self.refused(NoPlace, lambda: nth(row, place, scripted([])))
                    self.assertEqual(row, rising(n)[::-1])

    def test_at_of_places_that_are_not_there(self):
        for n in (0, 1, 2, 3, 150, 300):
            order = Asked(by_number)
            kept = Map(order)
            for key in rising(n):
                kept.put(key, "held")
            asked = order.count()
            for place in (-10 ** 20, -n - 1, -1, n, n + 1, n + 300, 10 ** 20):
                with self.subTest(n=n, place=place):
                    self.refused(NoPlace, lambda: kept.at(place))
            self.assertEqual(order.count(), asked)
            self.assertEqual(kept.pairs(), [(key, "held") for key in rising(n)])

    def test_nth_of_places_of_many_digits(self):
        for n in (0, 1, 3, 300):
            row = rising(n)[::-1]
            for place in (FAR, -FAR):
                self.refused(NoPlace, lambda: nth(row, place, scripted([])))
                self.assertEqual(row, rising(n)[::-1])

    def test_at_of_places_of_many_digits(self):
        for n in (0, 1, 3, 300):
            order = Asked(by_number)
            kept = Map(order)
            for key in rising(n):
                kept.put(key, "held")
            asked = order.count()
            for place in (FAR, -FAR):
                self.refused(NoPlace, lambda: kept.at(place))
            self.assertEqual(order.count(), asked)
            self.assertEqual(kept.pairs(), [(key, "held") for key in rising(n)])

    def test_get_of_a_key_of_many_digits(self):
        for keys in ([], [0], [0, FAR], [-FAR, 0, FAR]):
            kept = Map(by_number)
            for key in keys:
                kept.put(key, None)
            for key in (FAR + 1, FAR - 1, -FAR - 1):
                self.refused(NoElement, lambda: kept.get(key))
            self.assertTrue(kept.pairs() == [(key, None) for key in keys])

    def test_get_without_the_key(self):
        for n in (0, 1, 2, 3, 150, 300):
            kept = Map(by_number)
            for key in rising(n, 2):
                kept.put(key, None)
            for key in range(-1, 2 * n + 1, 2):
                self.refused(NoElement, lambda: kept.get(key))
            self.assertEqual(kept.pairs(), [(key, None) for key in rising(n, 2)])

    def test_places_that_are_there_are_not_refused(self):
        for n in (1, 2, 3, 50):
            row = tagged(rising(n))
            kept = Map(by_tag)
            for key in row:
                kept.put(key, None)
            for place in range(n):
                self.assertEqual(nth(row[::-1], place, by_tag), row[place])
                self.assertEqual(kept.at(place), (row[place], None))

    def test_what_is_empty_is_not_refused_elsewhere(self):
        self.assertEqual(best([], 0, scripted([])), [])
        self.assertEqual(best([], 5, scripted([])), [])
        kept = Map(scripted([]))
        self.assertIs(kept.drop(1), False)
        self.assertIs(kept.has(1), False)


if __name__ == "__main__":
    unittest.main()
