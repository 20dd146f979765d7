"""Points 2 to 5 and 11: figures, lengths, where numbers part, the texts that write them, refusals."""

import inspect
import unittest

from bucketfall import figures
from bucketfall.errors import NoBase, NoNumber
from bucketfall.figures import length, parting, read, shown

BASES = range(2, 17)
NO_BASES = (1, 17, 0, -1, -2, -10, 18, 36, 10 ** 250)
BELOW_NOUGHT = (-1, -2, -10, -(10 ** 250))
SIGNS = "0123456789abcdef"
# Every sign of a text that point 5 names.
ALL_SIGNS = [chr(code) for code in range(ord(" "), ord("~") + 1)] + ["\n", "\t"]
# Numbers of 250 figures in ten.
LEAST_LONG = 10 ** 249
MOST_LONG = 10 ** 250 - 1
LONG = int("7364019825" * 25)


def figures_by_places(number, base, places):
    """The figures at places 1, 2, .. as point 3 tells them, filled with noughts ahead."""
    return [number // base ** (place - 1) % base for place in range(1, places + 1)]


def some_numbers(base):
    """Ordinary numbers, and those around the powers of a base."""
    found = list(range(40)) + [100, 999, 12345, 2 ** 31, 10 ** 18 + 7, LEAST_LONG, MOST_LONG, LONG]
    for exponent in range(1, 70):
        found += [base ** exponent - 1, base ** exponent, base ** exponent + 1]
    return found


class Interface(unittest.TestCase):
    def test_names_and_arguments(self):
        listed = {
            "length": ["number", "base"],
            "parting": ["one", "other", "base"],
            "shown": ["number", "base"],
            "read": ["line", "base"],
        }
        for name, arguments in listed.items():
            with self.subTest(name=name):
                function = getattr(figures, name)
                self.assertEqual(list(inspect.signature(function).parameters), arguments)
                self.assertEqual(function.__module__, "bucketfall.figures")

    def test_kinds_of_values(self):
        self.assertIs(length(0, 10).__class__, int)
        self.assertIs(length(5, 10).__class__, int)
        self.assertIs(parting(5, 5, 10).__class__, int)
        self.assertIs(parting(5, 6, 10).__class__, int)
        self.assertIs(shown(0, 10).__class__, str)
        self.assertIs(shown(5, 10).__class__, str)
        self.assertIs(read("0", 10).__class__, int)
        self.assertIs(read("5", 10).__class__, int)


class Length(unittest.TestCase):
    def test_nought_has_length_0(self):
        for base in BASES:
            self.assertEqual(length(0, base), 0)

    def test_ordinary_numbers(self):
        self.assertEqual(length(1, 10), 1)
        self.assertEqual(length(305, 10), 3)
        self.assertEqual(length(6, 2), 3)
        self.assertEqual(length(255, 16), 2)
        self.assertEqual(length(26, 3), 3)
        self.assertEqual(length(27, 3), 4)

    def test_powers_of_the_base_and_one_less(self):
        for base in BASES:
            for exponent in range(0, 120):
                with self.subTest(base=base, exponent=exponent):
                    self.assertEqual(length(base ** exponent, base), exponent + 1)
                    self.assertEqual(length(base ** exponent - 1, base), exponent)

    def test_numbers_of_250_figures(self):
        self.assertEqual(length(LEAST_LONG, 10), 250)
        self.assertEqual(length(MOST_LONG, 10), 250)
        self.assertEqual(length(LONG, 10), 250)
        self.assertEqual(length(MOST_LONG, 2), MOST_LONG.bit_length())
        self.assertEqual(length(MOST_LONG, 16), len(format(MOST_LONG, "x")))

    def test_numbers_beyond_the_limit_are_no_error(self):
        self.assertEqual(length(10 ** 300, 10), 301)


class Parting(unittest.TestCase):
    def test_equal_numbers_part_at_0(self):
        for base in BASES:
            for number in some_numbers(base):
                self.assertEqual(parting(number, number, base), 0)

    def test_places_count_from_the_last_figure(self):
        self.assertEqual(parting(305, 306, 10), 1)
        self.assertEqual(parting(305, 315, 10), 2)
        self.assertEqual(parting(305, 405, 10), 3)

    def test_the_greatest_place_counts(self):
        self.assertEqual(parting(305, 916, 10), 3)
        self.assertEqual(parting(1234, 1991, 10), 3)
        self.assertEqual(parting(0b101101, 0b100100, 2), 4)
        self.assertEqual(parting(0xabcd, 0xabed, 16), 2)

    def test_neighbours_may_part_far_ahead(self):
        self.assertEqual(parting(199, 200, 10), 3)
        self.assertEqual(parting(7, 8, 2), 4)
        self.assertEqual(parting(0xfff, 0x1000, 16), 4)

    def test_numbers_of_unlike_length(self):
        self.assertEqual(parting(5, 12345, 10), 5)
        self.assertEqual(parting(12345, 5, 10), 5)
        self.assertEqual(parting(2345, 12345, 10), 5)
        self.assertEqual(parting(1, MOST_LONG, 10), 250)

    def test_nought_parts_from_a_number_at_its_length(self):
        for base in BASES:
            for number in some_numbers(base):
                self.assertEqual(parting(0, number, base), length(number, base))
                self.assertEqual(parting(number, 0, base), length(number, base))

    def test_numbers_of_250_figures(self):
        self.assertEqual(parting(MOST_LONG, MOST_LONG - 1, 10), 1)
        self.assertEqual(parting(LEAST_LONG, MOST_LONG, 10), 250)
        self.assertEqual(parting(LONG, LONG + 10 ** 100, 10), 101)
        self.assertEqual(parting(MOST_LONG, 10 ** 250, 10), 251)

    def test_against_the_figures_at_each_place(self):
        for base in BASES:
            numbers = list(range(30)) + [base ** 3 - 1, base ** 3, base ** 4 + base, 12345, 12354]
            for one in numbers:
                for other in numbers:
                    pairs = zip(figures_by_places(one, base, 20), figures_by_places(other, base, 20))
                    unlike = [place for place, (a, b) in enumerate(pairs, 1) if a != b]
                    with self.subTest(one=one, other=other, base=base):
                        self.assertEqual(parting(one, other, base), max(unlike, default=0))


class Shown(unittest.TestCase):
    def test_nought_is_written_0(self):
        for base in BASES:
            self.assertEqual(shown(0, base), "0")

    def test_the_signs_of_the_figures(self):
        for base in BASES:
            for figure in range(base):
                self.assertEqual(shown(figure, base), SIGNS[figure])

    def test_the_first_figure_is_ahead(self):
        self.assertEqual(shown(305, 10), "305")
        self.assertEqual(shown(120, 10), "120")
        self.assertEqual(shown(6, 2), "110")
        self.assertEqual(shown(0xfa0b, 16), "fa0b")
        self.assertEqual(shown(11 * 12 + 10, 12), "ba")
        self.assertEqual(shown(5, 3), "12")

    def test_powers_of_the_base_and_one_less(self):
        for base in BASES:
            for exponent in range(1, 60):
                self.assertEqual(shown(base ** exponent, base), "1" + "0" * exponent)
                self.assertEqual(shown(base ** exponent - 1, base), SIGNS[base - 1] * exponent)

    def test_against_python(self):
        for base, code in ((2, "b"), (8, "o"), (10, "d"), (16, "x")):
            for number in some_numbers(base):
                self.assertEqual(shown(number, base), format(number, code))

    def test_as_many_signs_as_figures(self):
        for base in BASES:
            for number in some_numbers(base):
                if number != 0:
                    self.assertEqual(len(shown(number, base)), length(number, base))

    def test_numbers_of_250_figures(self):
        self.assertEqual(shown(MOST_LONG, 10), "9" * 250)
        self.assertEqual(shown(LEAST_LONG, 10), "1" + "0" * 249)
        self.assertEqual(shown(LONG, 10), "7364019825" * 25)


class Read(unittest.TestCase):
    def refused(self, line, base):
        with self.subTest(line=line, base=base):
            with self.assertRaises(NoNumber):
                read(line, base)

    def test_0_writes_nought(self):
        for base in BASES:
            self.assertEqual(read("0", base), 0)

    def test_ordinary_texts(self):
        self.assertEqual(read("305", 10), 305)
        self.assertEqual(read("110", 2), 6)
        self.assertEqual(read("fa0b", 16), 0xfa0b)
        self.assertEqual(read("ba", 12), 11 * 12 + 10)
        self.assertEqual(read("10", 16), 16)
        self.assertEqual(read("10", 2), 2)

    def test_what_is_shown_is_read(self):
        for base in BASES:
            for number in some_numbers(base):
                self.assertEqual(read(shown(number, base), base), number)

    def test_each_single_sign(self):
        for base in BASES:
            for sign in ALL_SIGNS:
                if sign in SIGNS[:base]:
                    self.assertEqual(read(sign, base), SIGNS.index(sign))
                else:
                    self.refused(sign, base)

    def test_no_sign_that_is_no_figure_stands_anywhere(self):
        for base in BASES:
            for sign in ALL_SIGNS:
                if sign not in SIGNS[:base]:
                    for line in (sign + "1", "1" + sign, "1" + sign + "1"):
                        self.refused(line, base)

    def test_the_empty_text_writes_none(self):
        for base in BASES:
            self.refused("", base)

    def test_a_nought_ahead_of_others(self):
        for base in BASES:
            for line in ("00", "01", "000", "010", "0" * 900, "0" + "1" * 899):
                self.refused(line, base)

    def test_noughts_behind_the_first_sign(self):
        self.assertEqual(read("100", 10), 100)
        self.assertEqual(read("1001", 2), 9)

    def test_the_sign_of_the_base_itself(self):
        for base in range(2, 16):
            self.refused(SIGNS[base], base)
            self.refused("1" + SIGNS[base], base)
            self.assertEqual(read(SIGNS[base - 1], base), base - 1)
        self.refused("g", 16)
        self.refused("1g", 16)

    def test_capital_letters(self):
        for line in ("A", "F", "1A", "aF", "Ff", "B0"):
            self.refused(line, 16)

    def test_blanks_line_ends_and_tabs(self):
        for base in BASES:
            for sign in (" ", "\n", "\t"):
                for line in (sign, sign * 2, sign + "1", "1" + sign, "1" + sign + "1", "0" + sign, sign + "0"):
                    self.refused(line, base)

    def test_what_python_would_read_as_an_integer(self):
        for line in ("-1", "+1", "-0", "+0", "1_0", "_1", "1_", "0b1", "0x1", "0o7", "1e3", "1.0", "1,000"):
            for base in (2, 8, 10, 16):
                if not (base == 16 and line == "1e3"):
                    self.refused(line, base)
        self.assertEqual(read("1e3", 16), 0x1e3)

    def test_texts_of_nine_hundred_signs(self):
        for base in BASES:
            self.assertEqual(read(SIGNS[base - 1] * 900, base), base ** 900 - 1)
            self.assertEqual(read("1" + "0" * 899, base), base ** 899)
            mixed = ("1" + SIGNS[:base] + SIGNS[base - 1]) * 900
            self.assertEqual(read(mixed[:900], base), int(mixed[:900], base))
            self.refused("1" * 899 + " ", base)
            self.refused("1" * 899 + "\n", base)
            self.refused(" " * 900, base)
            self.refused("~" * 900, base)

    def test_a_long_text_is_shown_again(self):
        for base in BASES:
            line = SIGNS[base - 1] * 900
            self.assertEqual(shown(read(line, base), base), line)


class Refusals(unittest.TestCase):
    def refused(self, error, function, *arguments):
        with self.subTest(function=function.__name__, arguments=arguments):
            with self.assertRaises(error):
                function(*arguments)

    def test_a_base_that_is_none(self):
        for base in NO_BASES:
            self.refused(NoBase, length, 5, base)
            self.refused(NoBase, length, 0, base)
            self.refused(NoBase, parting, 5, 6, base)
            self.refused(NoBase, parting, 5, 5, base)
            self.refused(NoBase, shown, 5, base)
            self.refused(NoBase, shown, 0, base)
            self.refused(NoBase, read, "1", base)
            self.refused(NoBase, read, "0", base)

    def test_the_least_and_the_greatest_base(self):
        for base, expected in ((2, "11111111"), (16, "ff")):
            self.assertEqual(shown(255, base), expected)
            self.assertEqual(read(expected, base), 255)
            self.assertEqual(length(255, base), len(expected))
            self.assertEqual(parting(255, 0, base), len(expected))

    def test_a_number_below_nought(self):
        for base in BASES:
            for number in BELOW_NOUGHT:
                self.refused(NoNumber, length, number, base)
                self.refused(NoNumber, shown, number, base)
                self.refused(NoNumber, parting, number, 5, base)
                self.refused(NoNumber, parting, 5, number, base)
                self.refused(NoNumber, parting, number, 0, base)
                self.refused(NoNumber, parting, 0, number, base)
                self.refused(NoNumber, parting, number, number, base)

    def test_no_base_is_looked_at_ahead_of_no_number(self):
        for base in NO_BASES:
            for number in BELOW_NOUGHT:
                self.refused(NoBase, length, number, base)
                self.refused(NoBase, shown, number, base)
                self.refused(NoBase, parting, number, 5, base)
                self.refused(NoBase, parting, 5, number, base)
                self.refused(NoBase, parting, number, number, base)
            for line in ("", "00", "01", " ", "\n", "\t", "g", "A", "-1", "z" * 900):
                self.refused(NoBase, read, line, base)


if __name__ == "__main__":
    unittest.main()
