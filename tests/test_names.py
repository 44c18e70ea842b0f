"""[2]: names, numbers, and the numbers that are shared."""

from unittest import TestCase, main

from feeblind.measures import Price
from feeblind.names import MOST, PLENTY, WHEEL, is_name, is_number
from tests.oracles import ODD

LETTERS = "abcdefghijklmnopqrstuvwxyz"


class Shared(TestCase):
    def test_constants(self):
        self.assertEqual((MOST, PLENTY, WHEEL), (1000000, 1000000000, "car"))


class IsName(TestCase):
    def test_lengths(self):
        told = [is_name("a" * many) for many in range(11)]
        self.assertEqual(told, [False] + [True] * 8 + [False, False])

    def test_each_letter(self):
        for letter in LETTERS:
            self.assertIs(is_name(letter), True)
            self.assertIs(is_name("x" + letter + "x"), True)
            self.assertIs(is_name(letter.upper()), False)

    def test_each_other_character_at_each_place(self):
        others = [chr(code) for code in range(300) if chr(code) not in LETTERS]
        for other in others + ["\u03b1", "\uff41", "\U0001d41a", "\u0131", "\u017f", "\ufb01"]:
            for value in (other, other + "ab", "a" + other + "b", "ab" + other):
                self.assertIs(is_name(value), False, repr(value))

    def test_names_of_eight_letters_with_one_wrong(self):
        for at in range(8):
            value = "abcdefgh"
            self.assertIs(is_name(value[:at] + "G" + value[at + 1:]), False)

    def test_any_value(self):
        for value in ODD:
            fits = isinstance(value, str) and value in ("a", "car", "abcdefgh")
            self.assertIs(is_name(value), fits, repr(value))

    def test_other_kinds_that_hold_a_name(self):
        for value in (["a"], ("a",), {"a": "a"}, [["a"]], Price("a")):
            self.assertIs(is_name(value), False)

    def test_by_name(self):
        self.assertIs(is_name(value="ab"), True)


class IsNumber(TestCase):
    def test_next_to_least_and_most(self):
        told = [is_number(value, 3, 5) for value in (2, 3, 4, 5, 6)]
        self.assertEqual(told, [False, True, True, True, False])

    def test_least_is_0_and_there_is_no_most(self):
        told = [is_number(value) for value in (-1, 0, 1, 10 ** 30)]
        self.assertEqual(told, [False, True, True, True])

    def test_most_None(self):
        self.assertIs(is_number(10 ** 30, 5, None), True)
        self.assertIs(is_number(4, 5, None), False)

    def test_most_0_is_a_bound(self):
        self.assertIs(is_number(1, 0, 0), False)
        self.assertIs(is_number(0, 0, 0), True)

    def test_least_below_0(self):
        self.assertIs(is_number(-5, -5), True)
        self.assertIs(is_number(-6, -5), False)

    def test_least_above_most(self):
        self.assertIs(is_number(4, 5, 3), False)

    def test_True_and_False_are_none(self):
        for value in (True, False):
            self.assertIs(is_number(value), False)
            self.assertIs(is_number(value, 0, 1), False)
            self.assertIs(is_number(value, -1), False)

    def test_any_value(self):
        for value in ODD:
            self.assertIs(is_number(value), str(value) in ("0", "1", "7", "1000001"), repr(value))
            self.assertIs(is_number(value, -1, 1), str(value) in ("-1", "0", "1"), repr(value))

    def test_by_name(self):
        self.assertIs(is_number(value=3, least=3, most=3), True)
        self.assertIs(is_number(4, most=3), False)
        self.assertIs(is_number(2, least=3), False)


if __name__ == "__main__":
    main()
