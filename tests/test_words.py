import itertools
import unittest

from piercednames.words import (
    KEYWORDS, LIMIT, fresh_names, id_text, is_id, is_name, is_number, read_id, read_numeral,
)
from tests.samples import empty_program, odd_values

LETTERS = "abcdefghijklmnopqrstuvwxyz"


class ConstantsTest(unittest.TestCase):
    def test_keywords(self):
        self.assertEqual(
            KEYWORDS, ("let", "set", "out", "read", "do", "def", "if", "else", "repeat", "block")
        )

    def test_limit(self):
        self.assertEqual(LIMIT, 1000000)


class NamesTest(unittest.TestCase):
    def test_names(self):
        for text in ("a", "z", "ab", "lets", "abcdef", "zzzzzz", "use", "number", "blocks", "i", "d"):
            self.assertIs(is_name(text), True, text)

    def test_other_strings(self):
        for text in ("", "abcdefg", "A", "aB", "a1", "1", "a b", " a", "a ", "a\n", "\n", "a_b", "a.b", "-"):
            self.assertIs(is_name(text), False, text)

    def test_keywords_are_no_names(self):
        for word in KEYWORDS:
            self.assertIs(is_name(word), False, word)

    def test_other_values(self):
        for value in odd_values() + [["a"], ("a",), {"a": "a"}, ["a", "b"]]:
            self.assertIs(is_name(value), False, value)


class IdsTest(unittest.TestCase):
    def test_ids(self):
        for value in (("", 0), ("", 12), ("ann", 3), ("abcdef", 10 ** 20), ("number", 0), ("use", 1)):
            self.assertIs(is_id(value), True, value)

    def test_other_values(self):
        owners = ["let", "repeat", "Ann", "abcdefg", "a1", None, True, 0, (), ["a"], ("a",), empty_program()]
        numbers = [-1, True, False, None, "0", "", (), (0,), [0], empty_program()]
        values = [(owner, 1) for owner in owners] + [("ann", number) for number in numbers]
        values += [(), ("ann",), (3,), ("ann", 3, 3), ["ann", 3], "ann.3", {"ann": 3}, (3, "ann"), (("ann", 3),)]
        for value in values + [None, True, 7, empty_program()]:
            self.assertIs(is_id(value), False, value)

    def test_texts(self):
        for thing, text in ((("ann", 3), "ann.3"), (("", 12), ".12"), (("", 0), ".0"), (("abcdef", 999), "abcdef.999")):
            self.assertEqual(id_text(thing), text)
            self.assertEqual(read_id(text), thing)

    def test_long_numbers(self):
        self.assertEqual(read_id(".12345678901234567890"), ("", 12345678901234567890))

    def test_other_texts(self):
        texts = [
            "", ".", "ann", "ann.", ".00", ".01", "ann.03", "ann.-1", "ann.+1", "ann. 1", "ann.1 ", " ann.1", "ann .1",
            "ann.1.2", "..1", "1.1", "Ann.1", "abcdefg.1", "let.1", "do.0", "a b.1", "ann.1\n", "\nann.1", "ann,1",
            "ann.a", "ann.1a", "12", "a1.1", "ann.1_0", "1",
        ]
        for text in texts:
            self.assertIsNone(read_id(text), text)

    def test_values_that_are_no_strings(self):
        for value in [None, True, False, 0, 3, (), ("ann", 3), ["ann.3"], ("ann.3",), {"ann.3": 1}, empty_program()]:
            self.assertIsNone(read_id(value), value)


class NumbersTest(unittest.TestCase):
    def test_bounds(self):
        self.assertIs(is_number(0, 0, 0), True)
        self.assertIs(is_number(5, 1, 10), True)
        self.assertIs(is_number(1, 1, 10), True)
        self.assertIs(is_number(10, 1, 10), True)
        self.assertIs(is_number(0, 1, 10), False)
        self.assertIs(is_number(11, 1, 10), False)
        self.assertIs(is_number(-1, -3, -1), True)
        self.assertIs(is_number(2, 3, 1), False)
        self.assertIs(is_number(10 ** 30, 0, LIMIT), False)
        self.assertIs(is_number(LIMIT - 1, 0, LIMIT - 1), True)

    def test_other_values(self):
        for value in [None, True, False, "1", "", (), (1,), [1], {1: 1}, empty_program()]:
            self.assertIs(is_number(value, 0, 1), False, value)

    def test_numerals(self):
        for text, value in (("0", 0), ("7", 7), ("10", 10), ("100000", 100000), ("999999", 999999)):
            self.assertEqual(read_numeral(text), value)

    def test_other_texts(self):
        for text in ("", "00", "01", "000001", "1000000", "0000000", "-1", "+1", " 1", "1 ", "1\n", "1.0", "a", "1a", "1_0"):
            self.assertIsNone(read_numeral(text), text)

    def test_values_that_are_no_strings(self):
        for value in [None, True, False, 0, 7, (), ("7",), ["7"], {"7": 7}, empty_program()]:
            self.assertIsNone(read_numeral(value), value)


def words_in_order(many):
    """The first words by length and then by alphabet that are no keywords."""
    found = []
    for length in itertools.count(1):
        for letters in itertools.product(LETTERS, repeat=length):
            word = "".join(letters)
            if len(found) == many:
                return found
            if word not in KEYWORDS:
                found.append(word)


class FreshNamesTest(unittest.TestCase):
    def test_none(self):
        self.assertEqual(fresh_names(0, []), [])
        self.assertEqual(fresh_names(0, ["a"]), [])

    def test_first_ones(self):
        self.assertEqual(fresh_names(3, []), ["a", "b", "c"])
        self.assertEqual(fresh_names(26, []), list(LETTERS))
        self.assertEqual(fresh_names(28, [])[-2:], ["aa", "ab"])

    def test_beyond_two_letters(self):
        many = 26 + 26 * 26 - 2 + 2000
        names = fresh_names(many, [])
        self.assertEqual(names, words_in_order(many))
        self.assertEqual(names[700:702], ["aaa", "aab"])
        for word in KEYWORDS:
            self.assertFalse(word in names)
        self.assertEqual([word in names for word in ("ab", "dn", "dp", "zz", "cat")], [True] * 5)

    def test_avoided(self):
        self.assertEqual(fresh_names(3, ["b", "a"]), ["c", "d", "e"])
        self.assertEqual(fresh_names(2, list(LETTERS)), ["aa", "ab"])
        self.assertEqual(fresh_names(2, list(LETTERS[:25])), ["z", "aa"])
        self.assertEqual(fresh_names(3, ["a", "a", "c"]), ["b", "d", "e"])
        self.assertEqual(fresh_names(2, ("a", "c")), ["b", "d"])

    def test_other_strings_among_them(self):
        self.assertEqual(fresh_names(2, ["", "A", "a b", "let", "toolongname", ".2", "b", "\n"]), ["a", "c"])

    def test_the_list_stays_and_the_result_is_new(self):
        avoid = ["c", "a", "c"]
        names = fresh_names(2, avoid)
        self.assertEqual(avoid, ["c", "a", "c"])
        names.append("x")
        self.assertEqual(fresh_names(2, avoid), ["b", "d"])

    def test_by_name(self):
        self.assertEqual(fresh_names(many=1, avoid=["a"]), ["b"])
        self.assertIs(is_number(value=1, least=0, most=2), True)


if __name__ == "__main__":
    unittest.main()
