"""Points [2] and [3]: values, and what signs make of two of them."""

import unittest

from hunch.values import is_so, kind_of, worked

LETTERS = "abcdefghijklmnopqrstuvwxyz"
NUMBERS = (0, 1, 2, 7, 5003, 5004, 9999, 10005, 10006)
TEXTS = ("", "a", "b", "ab", "ba", "aab", "banana", "abcdefghijkl", "zzzzzzzzzzzz")


def same_to_the_kind(case, got, wanted):
    """assertEqual alone takes True for 1 and False for 0."""
    case.assertEqual((got, type(got)), (wanted, type(wanted)))


class Made(unittest.TestCase):
    def makes(self, sign, one, two, wanted):
        with self.subTest(sign=sign, one=one, two=two):
            same_to_the_kind(self, worked(sign, one, two), wanted)


class Kinds(unittest.TestCase):
    def test_numbers_are_of_kind_n(self):
        for value in NUMBERS:
            self.assertEqual(kind_of(value), "n")

    def test_texts_are_of_kind_t(self):
        for value in TEXTS + ("n", "t", "z"):
            self.assertEqual(kind_of(value), "t")

    def test_beyond_the_limits(self):
        for value in (-1, 10007, 20000):
            self.assertEqual(kind_of(value), "n")
        self.assertEqual(kind_of(LETTERS), "t")


class Yes(unittest.TestCase):
    def test_nought_and_the_empty_text_are_no(self):
        self.assertIs(is_so(0), False)
        self.assertIs(is_so(""), False)

    def test_all_other_values_are_yes(self):
        for value in NUMBERS[1:] + TEXTS[1:] + ("n", "t"):
            self.assertIs(is_so(value), True)

    def test_beyond_the_limits(self):
        for value in (-1, 10007, 20014, LETTERS):
            self.assertIs(is_so(value), True)


class TwoNumbers(Made):
    def test_add(self):
        self.makes("add", 0, 0, 0)
        self.makes("add", 2, 3, 5)
        self.makes("add", 0, 10006, 10006)
        self.makes("add", 5003, 5003, 10006)

    def test_add_reaches_and_passes_10007(self):
        self.makes("add", 5003, 5004, 0)
        self.makes("add", 1, 10006, 0)
        self.makes("add", 5004, 5004, 1)
        self.makes("add", 2, 10006, 1)
        self.makes("add", 10006, 10006, 10005)

    def test_sub(self):
        self.makes("sub", 5, 3, 2)
        self.makes("sub", 3, 3, 0)
        self.makes("sub", 10006, 0, 10006)
        self.makes("sub", 10006, 10006, 0)

    def test_sub_below_nought(self):
        self.makes("sub", 3, 5, 10005)
        self.makes("sub", 0, 1, 10006)
        self.makes("sub", 0, 10006, 1)
        self.makes("sub", 1, 10006, 2)

    def test_less(self):
        self.makes("less", 3, 5, 1)
        self.makes("less", 5, 5, 0)
        self.makes("less", 5, 3, 0)
        self.makes("less", 0, 10006, 1)
        self.makes("less", 10006, 0, 0)
        # By size and not by figures.
        self.makes("less", 9, 10, 1)
        self.makes("less", 10, 9, 0)

    def test_same(self):
        for one in NUMBERS:
            for two in NUMBERS:
                self.makes("same", one, two, 1 if one == two else 0)

    def test_sums_and_differences_stay_numbers_in_range(self):
        for one in NUMBERS:
            for two in NUMBERS:
                total = worked("add", one, two)
                self.assertIn(total, range(10007))
                self.assertEqual(worked("sub", total, two), one)
                self.assertIn(worked("sub", one, two), range(10007))

    def test_beyond_the_limits(self):
        self.makes("add", 10007, 0, 0)
        self.makes("add", 30000, 30000, 60000 - 5 * 10007)
        self.makes("add", -3, 1, 10005)
        self.makes("sub", 20014, 1, 10006)
        self.makes("sub", 0, 20000, 14)
        self.makes("less", 10007, 1, 0)
        self.makes("same", 10007, 0, 0)


class TwoTexts(Made):
    def test_add_to_fewer_than_twelve_letters(self):
        self.makes("add", "", "", "")
        self.makes("add", "", "b", "b")
        self.makes("add", "a", "", "a")
        self.makes("add", "ab", "ba", "abba")
        self.makes("add", "abcdef", "ghijk", "abcdefghijk")

    def test_add_to_just_twelve_letters(self):
        self.makes("add", "abcdef", "ghijkl", "abcdefghijkl")
        self.makes("add", "abcdefghijkl", "", "abcdefghijkl")
        self.makes("add", "", "abcdefghijkl", "abcdefghijkl")
        self.makes("add", "a", "bcdefghijkl", "abcdefghijkl")

    def test_add_to_more_than_twelve_letters(self):
        self.makes("add", "abcdef", "ghijklm", "abcdefghijkl")
        self.makes("add", "abcdefghijkl", "m", "abcdefghijkl")
        self.makes("add", "z", "abcdefghijkl", "zabcdefghijk")
        self.makes("add", "abcdefghijkl", "mnopqrstuvwx", "abcdefghijkl")

    def test_sub(self):
        self.makes("sub", "abc", "b", "ac")
        self.makes("sub", "cab", "bx", "ca")

    def test_sub_where_letters_occur_several_times(self):
        self.makes("sub", "banana", "a", "bnn")
        self.makes("sub", "banana", "an", "b")
        self.makes("sub", "banana", "na", "b")
        self.makes("sub", "banana", "nnnn", "baaa")
        self.makes("sub", "mississippi", "sp", "miiii")

    def test_sub_where_all_go(self):
        self.makes("sub", "banana", "banana", "")
        self.makes("sub", "banana", "nab", "")
        self.makes("sub", "a", "abc", "")
        self.makes("sub", "", "abc", "")

    def test_sub_where_none_goes(self):
        self.makes("sub", "banana", "", "banana")
        self.makes("sub", "banana", "xyz", "banana")
        self.makes("sub", "", "", "")

    def test_less(self):
        self.makes("less", "a", "b", 1)
        self.makes("less", "b", "a", 0)
        self.makes("less", "b", "aa", 0)
        self.makes("less", "aa", "b", 1)
        self.makes("less", "abc", "abd", 1)
        self.makes("less", "abd", "abc", 0)

    def test_less_with_equal_texts(self):
        for text in TEXTS:
            self.makes("less", text, text, 0)

    def test_less_where_one_begins_with_the_other(self):
        self.makes("less", "ab", "abc", 1)
        self.makes("less", "abc", "ab", 0)

    def test_less_with_the_empty_text(self):
        for text in TEXTS[1:]:
            self.makes("less", "", text, 1)
            self.makes("less", text, "", 0)

    def test_same(self):
        for one in TEXTS:
            for two in TEXTS:
                self.makes("same", one, two, 1 if one == two else 0)

    def test_beyond_the_limits(self):
        self.makes("add", LETTERS, "a", "abcdefghijkl")
        self.makes("add", "", LETTERS, "abcdefghijkl")
        self.makes("sub", LETTERS, "aeiou", "bcdfghjklmnpqrstvwxyz")
        self.makes("less", LETTERS, LETTERS + "a", 1)
        self.makes("same", LETTERS, LETTERS, 1)


class UnlikeKinds(Made):
    def test_add_sub_and_less_make_nothing(self):
        for number in NUMBERS:
            for text in TEXTS:
                for sign in ("add", "sub", "less"):
                    self.makes(sign, number, text, None)
                    self.makes(sign, text, number, None)

    def test_same_makes_nought(self):
        for number in NUMBERS:
            for text in TEXTS:
                self.makes("same", number, text, 0)
                self.makes("same", text, number, 0)

    def test_nought_and_the_empty_text_are_not_the_same(self):
        self.makes("same", 0, "", 0)
        self.makes("same", "", 0, 0)


if __name__ == "__main__":
    unittest.main()
