"""Points 3, 4, 10 and 11 of the document: keeproom/numbers.py."""

import inspect
import itertools
import re
import unittest
from fractions import Fraction
from math import gcd

from keeproom import numbers
from keeproom.numbers import less, number_for, position, read_number, write_number

FORM = re.compile("(?P<top>0|-?[1-9][0-9]*)(/(?P<bottom>[1-9][0-9]*))?", re.ASCII)
# The texts with what is read, the document's own first.
TEXTS = {
    "0": (0, 1), "-3": (-3, 1), "7/2": (7, 2), "-1/3": (-1, 3),
    "1": (1, 1), "-1": (-1, 1), "9": (9, 1), "10": (10, 1), "-10": (-10, 1), "1/2": (1, 2), "-1/2": (-1, 2),
    "999999999999": (999999999999, 1), "-999999999999": (-999999999999, 1),
    "1/999999999999": (1, 999999999999), "-999999999998/999999999999": (-999999999998, 999999999999),
    "10/3": (10, 3), "3/10": (3, 10), "100/101": (100, 101),
}
# The document's own first.
NO_TEXTS = (
    "-0", "03", "+1", "6/4", "3/1", "1.5", "0/2",
    "", "-", "/", "-/", "+", "--1", "-+1", "00", "-03", "-00", "+0", "01/2", "1/02", "-01/2", "0/1", "1/1", "-3/1",
    "1/0", "0/0", "-1/0", "-0/1", "-0/3", "0/3", "2/2", "2/4", "-2/4", "4/2", "12/9", "9/12", "-9/12", "1/-2",
    "-1/-2", "1/+2", "1/-0", "1/", "/2", "-/2", "1//2", "1/2/3", "1/2/", "/1/2", " 1", "1 ", "1 /2", "1/ 2", "- 1",
    "1/2 ", " 1/2", "1 2", "\t1", "1\n", "1/2\n", "\n1", " ", "\n", "1_0", "1,0", "1e3", "0x1", "0b1", "a", "now", "1a",
    "a1", "1/a", "1-", "1-2", "-1/2-", "1\\2", ".5", "5.", "inf", "nan", "None", "\u00b2", "1\u00b2", "\u0663",
    "1\u0663", "\u0663/2", "1/\u0663", "\uff11", "\u2460", "\u00bd", "\u22121", "1\u20442", "\u00a01", "1\u00a0", "\x001",
    "1\x00", "\u096a\u0968",
)
# 63 to 65 and 127 to 129 lie around the pieces in which long texts are read and written, 4300 is the length up to
# which Python itself turns texts into integers.
LENGTHS = (2, 12, 13, 19, 20, 63, 64, 65, 127, 128, 129, 640, 641, 1000, 3998, 3999, 4300, 4301, 6000)


def pair_of(fraction):
    return (fraction.numerator, fraction.denominator)


def fraction_of(pair):
    return Fraction(pair[0], pair[1])


def expected(text):
    """What read_number has to give for a short text, by the words of point 4."""
    found = FORM.fullmatch(text)
    if found is None:
        return None
    top = int(found["top"])
    if found["bottom"] is None:
        return (top, 1)
    bottom = int(found["bottom"])
    return (top, bottom) if bottom >= 2 and gcd(top, bottom) == 1 else None


class TextsTest(unittest.TestCase):
    def check_number(self, text, pair):
        self.assertEqual(read_number(text), pair)
        self.assertEqual(write_number(pair), text)

    def test_numbers(self):
        for text, pair in TEXTS.items():
            with self.subTest(text):
                self.check_number(text, pair)

    def test_pairs_are_tuples_of_two_integers(self):
        for text in TEXTS:
            pair = read_number(text)
            self.assertIs(type(pair), tuple)
            self.assertEqual([type(item) for item in pair], [int, int])
            self.assertIs(type(write_number(pair)), str)

    def test_texts_that_are_none(self):
        for text in NO_TEXTS:
            with self.subTest(text):
                self.assertIsNone(read_number(text))

    def test_all_short_texts(self):
        for length in range(6):
            for signs in itertools.product("01246-/ +", repeat=length):
                text = "".join(signs)
                pair = expected(text)
                if read_number(text) != pair:
                    self.fail(f"{text!r} is read as {read_number(text)!r}, not as {pair!r}")
                if pair is not None and write_number(pair) != text:
                    self.fail(f"{pair!r} is written as {write_number(pair)!r}, not as {text!r}")

    def test_all_small_pairs(self):
        for bottom in range(1, 40):
            for top in range(-90, 91):
                if gcd(top, bottom) == 1:
                    text = str(Fraction(top, bottom))
                    self.check_number(text, (top, bottom))

    def test_each_other_sign_inside_a_number(self):
        for code in list(range(256)) + [0x0660, 0x0967, 0x2070, 0x2081, 0xFF10, 0x1D7CE]:
            sign = chr(code)
            if sign in "0123456789":
                continue
            for text in (sign, "1" + sign, "1" + sign + "3", "1/3" + sign, "1/" + sign + "3"):
                if text != "1/3":
                    self.assertIsNone(read_number(text), repr(text))

    def test_long_whole_numbers(self):
        for length in LENGTHS:
            for digits in ("1" + "0" * (length - 1), "9" * length, ("12345678901" * length)[:length]):
                with self.subTest(digits=digits[:20], length=length):
                    value = 0
                    for digit in digits:
                        value = value * 10 + int(digit)
                    self.check_number(digits, (value, 1))
                    self.check_number("-" + digits, (-value, 1))

    def test_long_fractions(self):
        for length in LENGTHS:
            power = 10 ** (length - 1)
            one_more = "1" + "0" * (length - 2) + "1"
            with self.subTest(length=length):
                self.check_number("1/1" + "0" * (length - 1), (1, power))
                self.check_number(one_more + "/1" + "0" * (length - 1), (power + 1, power))
                self.check_number("-1" + "0" * (length - 1) + "/" + one_more, (-power, power + 1))

    def test_long_texts_that_are_none(self):
        for length in LENGTHS:
            nines = "9" * length
            for text in ("0" + nines, "-0" + nines, "+" + nines, nines + " ", nines + "/1", nines + "/3", nines + "/0",
                         "2/0" + nines, nines + "/" + nines, "3/" + nines, nines + ".0", nines + "a", "a" + nines,
                         "0/" + nines, "0" * length, "-" + "0" * length, nines[1:] + "\u0663"):
                self.assertIsNone(read_number(text), (text[:10], text[-10:], length))


class OrderTest(unittest.TestCase):
    values = sorted({Fraction(top, bottom) for top in range(-7, 8) for bottom in range(1, 6)})

    def test_less(self):
        for a, b in (("0", "1"), ("-1", "0"), ("-3", "-2"), ("1/3", "1/2"), ("-1/2", "-1/3"), ("2/3", "3/4"),
                     ("-1/3", "1/4"), ("7/2", "4"), ("3", "7/2"), ("-7/2", "-3"), ("99/100", "100/101")):
            with self.subTest(a=a, b=b):
                self.assertIs(less(read_number(a), read_number(b)), True)
                self.assertIs(less(read_number(b), read_number(a)), False)

    def test_none_is_less_than_itself(self):
        for text in TEXTS:
            self.assertIs(less(read_number(text), read_number(text)), False)

    def test_less_of_all_small_fractions_both_ways_round(self):
        for a, b in itertools.product(self.values, repeat=2):
            self.assertIs(less(pair_of(a), pair_of(b)), a < b, (a, b))

    def test_less_of_neighbours_with_long_texts(self):
        power = 10 ** 3990
        self.assertTrue(less((power - 1, power), (power, power + 1)))
        self.assertFalse(less((power, power + 1), (power - 1, power)))
        self.assertTrue(less((-power, 1), (1 - power, 1)))


class PositionsTest(unittest.TestCase):
    sets = (
        (), ("0",), ("5",), ("-5",), ("-1/3",), ("0", "1"), ("-1", "1"), ("-3", "-2"), ("1/3", "1/2"), ("-7/2", "-1/3"),
        ("-3", "0", "7/2"), ("1/4", "1/3", "1/2"), ("-5/2", "-2", "-3/2"), ("999999999998", "999999999999"),
        ("-4", "-3/2", "0", "1/5", "1/4"), ("1", "2", "3", "4", "5", "6", "7", "8"),
    )

    def among(self):
        return [tuple(read_number(text) for text in texts) for texts in self.sets]

    def test_the_sets_of_these_tests_are_ascending(self):
        for among in self.among():
            values = [fraction_of(pair) for pair in among]
            self.assertEqual(values, sorted(set(values)))

    def test_the_number_for_each_position_is_at_it(self):
        for among in self.among():
            for place in range(2 * len(among) + 1):
                with self.subTest(among=among, place=place):
                    pair = number_for(place, among)
                    self.assertEqual(position(pair, among), place)
                    self.assertEqual(pair, pair_of(fraction_of(pair)))
                    self.assertEqual(read_number(write_number(pair)), pair)

    def test_the_number_for_each_position(self):
        for among in self.among():
            values = [fraction_of(pair) for pair in among]
            places = [values[0] - 1] if values else [Fraction(0)]
            for at, value in enumerate(values):
                above = value + 1 if at + 1 == len(values) else (value + values[at + 1]) / 2
                places += [value, above]
            for place, value in enumerate(places):
                with self.subTest(among=among, place=place):
                    self.assertEqual(number_for(place, among), pair_of(value))

    def test_the_example_of_the_interface(self):
        self.assertEqual(write_number(number_for(2, (read_number("1/2"), read_number("3")))), "7/4")

    def test_numbers_for_positions_by_their_texts(self):
        among = (read_number("-3/2"), read_number("1/2"), read_number("5/2"))
        told = [write_number(number_for(place, among)) for place in range(7)]
        self.assertEqual(told, ["-5/2", "-3/2", "-1/2", "1/2", "3/2", "5/2", "7/2"])
        self.assertEqual(write_number(number_for(0, ())), "0")

    def test_positions_by_the_count_of_lesser_ones(self):
        probes = [pair_of(value) for value in OrderTest.values]
        for among in self.among():
            values = [fraction_of(pair) for pair in among]
            for probe in probes + list(among):
                rank = len([value for value in values if value < fraction_of(probe)])
                place = 2 * (rank + 1) - 1 if fraction_of(probe) in values else 2 * rank
                self.assertEqual(position(probe, among), place, (probe, among))

    def test_positions_among_none(self):
        for text in TEXTS:
            self.assertEqual(position(read_number(text), ()), 0)

    def test_halving_again_and_again(self):
        among = ((0, 1), (1, 1))
        for _ in range(300):
            among = (among[0], number_for(2, among))
        self.assertEqual(among[1], (1, 2 ** 300))
        self.assertEqual(read_number(write_number(among[1])), among[1])


class FunctionsTest(unittest.TestCase):
    def test_arguments_have_the_names_of_the_interface(self):
        wanted = {"read_number": ["text"], "write_number": ["pair"], "less": ["a", "b"],
                  "position": ["number", "among"], "number_for": ["position", "among"]}
        for name, arguments in wanted.items():
            function = getattr(numbers, name)
            self.assertEqual(list(inspect.signature(function).parameters), arguments)
            self.assertEqual(function.__module__, "keeproom.numbers")

    def test_arguments_are_as_they_were(self):
        a, b, among = (-1, 2), (1, 3), ((-1, 2), (1, 3), (5, 1))
        less(a, b)
        write_number(a)
        for place in range(7):
            position(number_for(place, among), among)
        position(b, among)
        self.assertEqual((a, b, among), ((-1, 2), (1, 3), ((-1, 2), (1, 3), (5, 1))))
        # A list instead of a tuple, that a change would show in.
        listed = [[-1, 2], [1, 3], [5, 1]]
        less(listed[0], listed[1])
        write_number(listed[0])
        for place in range(7):
            number_for(place, listed)
        position(listed[1], listed)
        self.assertEqual(listed, [[-1, 2], [1, 3], [5, 1]])

    def test_same_arguments_same_results(self):
        among = ((-1, 2), (1, 3), (5, 1))
        for place in range(7):
            self.assertEqual(number_for(place, among), number_for(place, among))
        for text in list(TEXTS) + list(NO_TEXTS):
            self.assertEqual(read_number(text), read_number(text))


if __name__ == "__main__":
    unittest.main()
