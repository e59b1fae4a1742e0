"""Promise [2], as far as it is due: the classes."""

import unittest

from yourorder.errors import NoElement, NoPlace, OrderError


class ErrorsTest(unittest.TestCase):
    def test_order_error_stands_under_value_error(self):
        self.assertTrue(issubclass(OrderError, ValueError))
        with self.assertRaises(ValueError):
            raise OrderError("refused")

    def test_refusals_stand_under_order_error(self):
        for refusal in (NoElement, NoPlace):
            with self.subTest(refusal=refusal):
                self.assertTrue(issubclass(refusal, OrderError))
                self.assertIsNot(refusal, OrderError)
                with self.assertRaises(OrderError):
                    raise refusal("refused")

    def test_no_refusal_stands_under_another(self):
        self.assertFalse(issubclass(NoElement, NoPlace))
        self.assertFalse(issubclass(NoPlace, NoElement))
        self.assertFalse(issubclass(OrderError, NoElement))
        self.assertFalse(issubclass(OrderError, NoPlace))

    def test_str_is_the_text_that_it_was_made_of(self):
        for refusal in (OrderError, NoElement, NoPlace):
            for text in ("", " ", "there is no element", "place 7\nof 3", "'quoted'", "{name}"):
                with self.subTest(refusal=refusal, text=text):
                    self.assertEqual(str(refusal(text)), text)

    def test_names(self):
        self.assertEqual([kind.__name__ for kind in (OrderError, NoElement, NoPlace)],
                         ["OrderError", "NoElement", "NoPlace"])


if __name__ == "__main__":
    unittest.main()
