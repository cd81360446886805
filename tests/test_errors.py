"""The interface of hunch.errors."""

import unittest

from hunch.errors import HunchError, NoTop, Unread


class Classes(unittest.TestCase):
    def test_any_refusal_is_a_value_error(self):
        self.assertEqual(HunchError.__bases__, (ValueError,))
        self.assertEqual(HunchError.__name__, "HunchError")

    def test_each_kind_is_a_refusal(self):
        self.assertEqual(Unread.__bases__, (HunchError,))
        self.assertEqual(NoTop.__bases__, (HunchError,))
        self.assertEqual((Unread.__name__, NoTop.__name__), ("Unread", "NoTop"))

    def test_the_kinds_are_not_one_another(self):
        self.assertFalse(issubclass(Unread, NoTop))
        self.assertFalse(issubclass(NoTop, Unread))

    def test_each_stands_in_its_module(self):
        for each in (HunchError, Unread, NoTop):
            self.assertEqual(each.__module__, "hunch.errors")

    def test_they_are_caught_as_what_they_are(self):
        for each in (Unread, NoTop):
            for wider in (each, HunchError, ValueError):
                with self.assertRaises(wider) as caught:
                    raise each("why")
                self.assertEqual(str(caught.exception), "why")

    def test_one_kind_passes_a_handler_of_the_other(self):
        for each, other in ((Unread, NoTop), (NoTop, Unread)):
            with self.assertRaises(each):
                try:
                    raise each("why")
                except other:
                    pass


if __name__ == "__main__":
    unittest.main()
