"""Point 1, "A text": words, as point 3 tells them."""

import datetime
import fractions
import random
import unittest

from helper import double_told, value


class Truths(unittest.TestCase):
    def test_true_and_false(self):
        self.assertEqual(value(b"true"), b"true")
        self.assertEqual(value(b"false"), b"false")

    def test_other_words(self):
        for word in (b"True", b"FALSE", b"tru", b"truee", b"yes", b"null", b"none", b"true.", b"+true", b"-false", b"t",
                     b"true-", b"_true", b"a", b"-", b"+", b".", b"_", b"e", b"x", b"e5", b"E5", b"x1"):
            self.assertEqual(value(word), -1, word)

    def test_a_word_goes_as_far_as_its_signs(self):
        for word in (b"1a", b"1.5a", b"1-1", b"1+1", b"1_", b"true1", b"1.2.3", b"2000-01-01a", b"2000-01-01-", b"0x1g",
                     b"1 1", b"1:1", b"1/1", b"1,1", b"2000-01-01T00", b"2000-01-01 00", b"07:00", b"1'1'", b'1"1"',
                     b"1(", b"1\xc3\xa9"):
            self.assertEqual(value(word), -1, word)


class Days(unittest.TestCase):
    def test_days(self):
        for written, number in ((b"1970-01-01", 0), (b"1970-01-02", 1), (b"1969-12-31", -1), (b"2000-02-29", 11016),
                                (b"0000-01-01", -719528), (b"0000-02-29", -719469), (b"0000-03-01", -719468),
                                (b"0001-01-01", -719162), (b"9999-12-31", 2932896), (b"1600-02-29", -135081)):
            self.assertEqual(value(written), b"@%d" % number, written)

    def test_all_months_ends_as_python_counts_them(self):
        first = datetime.date(1970, 1, 1)
        for year in (1, 4, 99, 100, 101, 399, 400, 1582, 1600, 1700, 1899, 1900, 1970, 1999, 2000, 2023, 2024, 2100, 9999):
            for month in range(1, 13):
                for day in range(1, 33):
                    written = b"%04d-%02d-%02d" % (year, month, day)
                    try:
                        expected = b"@%d" % (datetime.date(year, month, day) - first).days
                    except ValueError:
                        expected = -1
                    self.assertEqual(value(written), expected, written)

    def test_days_that_no_month_has(self):
        for written in (b"2023-02-29", b"1900-02-29", b"2100-02-29", b"2000-02-30", b"0000-02-30", b"0100-02-29",
                        b"2000-04-31", b"2000-00-01", b"2000-13-01", b"2000-01-00", b"2000-01-32", b"2000-99-99"):
            self.assertEqual(value(written), -1, written)

    def test_wrong_forms(self):
        for written in (b"2000-1-01", b"2000-01-1", b"200-01-01", b"20000-01-01", b"-2000-01-01", b"+2000-01-01",
                        b"2000-01_01", b"2000-0101", b"20000101-", b"2000-01-001", b"2000.01.01", b"2000-01", b"2_00-01-01",
                        b"2000-01-0_", b"2000-0x-01", b"2000+01+01", b"2000-01+01"):
            self.assertEqual(value(written), -1, written)

    def test_what_is_no_digit_in_each_place(self):
        for place in (0, 1, 2, 3, 5, 6, 8, 9):
            for sign in (b"x", b"_", b"-", b".", b"+"):
                written = b"2000-11-11"[:place] + sign + b"2000-11-11"[place + 1:]
                self.assertEqual(value(written), -1, written)


class WholeNumbers(unittest.TestCase):
    def test_in_tens(self):
        for written, number in ((b"0", 0), (b"+0", 0), (b"-0", 0), (b"7", 7), (b"+7", 7), (b"-7", -7), (b"10", 10),
                                (b"1_000", 1000), (b"1_2_3", 123), (b"-1_0", -10), (b"1234567890", 1234567890)):
            self.assertEqual(value(written), b"%d" % number, written)

    def test_both_ends(self):
        for written in (b"9223372036854775807", b"-9223372036854775808", b"-9223372036854775807"):
            self.assertEqual(value(written), written)
        self.assertEqual(value(b"+9_223_372_036_854_775_807"), b"9223372036854775807")
        for written in (b"9223372036854775808", b"+9223372036854775808", b"-9223372036854775809", b"18446744073709551616",
                        b"99999999999999999999", b"-99999999999999999999", b"1" + b"0" * 5000, b"-1" + b"0" * 5000):
            self.assertEqual(value(written), -1, written)

    def test_wrong_forms(self):
        for written in (b"00", b"01", b"-01", b"+00", b"0_1", b"0_0", b"_1", b"1_", b"1__0", b"-_1", b"+-1", b"--1", b"++1",
                        b"1-", b"- 1", b"-", b"+", b"1a", b"a1", b"1.", b".1", b"1_000_", b"00000"):
            self.assertEqual(value(written), -1, written)

    def test_other_bases(self):
        for written, number in ((b"0x0", 0), (b"0xff", 255), (b"0xFf", 255), (b"0xdead_BEEF", 0xDEADBEEF), (b"0o17", 15),
                                (b"0o0_7", 7), (b"0b101", 5), (b"0b1_0", 2), (b"0x1e5", 0x1E5), (b"0x0001", 1),
                                (b"0o000", 0), (b"0b0000_0001", 1), (b"0xb1", 0xB1), (b"0x" + b"0" * 6000 + b"a", 10),
                                (b"0xabcdef", 0xABCDEF), (b"0xABCDEF", 0xABCDEF), (b"0o1234567", 0o1234567)):
            self.assertEqual(value(written), b"%d" % number, written)

    def test_ends_in_other_bases(self):
        most = 2 ** 63 - 1
        for form in (b"0x%x", b"0x%X", b"0x000%x"):
            self.assertEqual(value(form % most), b"%d" % most)
            self.assertEqual(value(form % (most + 1)), -1)
            self.assertEqual(value(form % (2 ** 64 - 1)), -1)
        self.assertEqual(value(b"0o777777777777777777777"), b"%d" % most)
        self.assertEqual(value(b"0o1000000000000000000000"), -1)
        self.assertEqual(value(b"0b" + b"1" * 63), b"%d" % most)
        self.assertEqual(value(b"0b1" + b"0" * 63), -1)

    def test_wrong_forms_in_other_bases(self):
        for written in (b"0x", b"0o", b"0b", b"-0x1", b"+0x1", b"-0b1", b"+0o1", b"0X1", b"0O1", b"0B1", b"0x_1", b"0x1_",
                        b"0x1__1", b"0_x1", b"00x1", b"0xg", b"0o8", b"0b2", b"0x-1", b"0x1.0", b"0o1e1", b"0b1e1", b"x1",
                        b"1x1", b"0o9", b"0ba", b"0oa"):
            self.assertEqual(value(written), -1, written)


class RealNumbers(unittest.TestCase):
    def check(self, written):
        self.assertEqual(value(written), double_told(float(written)), written)

    def test_forms(self):
        for written in (b"0.0", b"1.5", b"+1.5", b"-1.5", b"1e5", b"1E5", b"1e+5", b"1e-5", b"1.5e3", b"1.5E-3", b"0e0",
                        b"0.001", b"1e05", b"1e-007", b"1_0.0_1", b"1_0e1_0", b"12.0_5e0_1", b"0.0e5", b"10.00", b"0.1",
                        b"3.14159", b"6.02214076e23", b"100.0", b"1e00", b"-0.1E+0"):
            self.check(written)

    def test_wrong_forms(self):
        for written in (b"1.", b".1", b"1.e5", b".e5", b"1e", b"1e+", b"e5", b"1.5e", b"1.5.5", b"1e5e5", b"1e5.5", b"01.5",
                        b"00.5", b"-01.5", b"01e5", b"0_1.5", b"1_.5", b"1._5", b"1.5_", b"1.5__5", b"_1.5", b"1_e5",
                        b"1e_5", b"1e5_", b"1e5__5", b"1e+_5", b"1e+-5", b"1e--5", b"+-1.5", b"--1.5", b"1.5f", b"1d5",
                        b"1.5e5E5", b"1e5a", b"1e1f", b"1.a", b"a.5", b"-.5", b"+.5", b".", b"-e5", b"1,5", b"1.-5", b"1.+5", b"00e0", b"0x1.8", b"0x1p4"):
            self.assertEqual(value(written), -1, written)

    def test_zeros(self):
        for written in (b"0.0", b"+0.0", b"0e999999999", b"0.000e-5", b"0e-0"):
            self.assertEqual(value(written), b"#0000000000000000", written)
        for written in (b"-0.0", b"-0e0", b"-0.0e400", b"-0E-99999999999"):
            self.assertEqual(value(written), b"#8000000000000000", written)

    def test_infinity_and_nan(self):
        for written, bits in ((b"inf", b"7ff0000000000000"), (b"+inf", b"7ff0000000000000"), (b"-inf", b"fff0000000000000"),
                              (b"nan", b"7ff8000000000000"), (b"+nan", b"7ff8000000000000"), (b"-nan", b"fff8000000000000")):
            self.assertEqual(value(written), b"#" + bits)
        for written in (b"Inf", b"INF", b"NaN", b"NAN", b"infinity", b"--inf", b"+-nan", b"inf.0", b"1inf", b"nan1", b"in"):
            self.assertEqual(value(written), -1, written)

    def test_too_large(self):
        for written in (b"1e309", b"1.8e308", b"2e308", b"1e400", b"1e99999999999999999999", b"1" + b"0" * 400 + b".0",
                        b"1e" + b"9" * 5000, b"9" * 309 + b".9", b"0.1e310", b"1e310", b"10e308", b"0.01e311"):
            self.assertEqual(value(written), b"#7ff0000000000000", written)
            self.assertEqual(value(b"-" + written), b"#fff0000000000000", written)

    def test_around_the_largest(self):
        largest = (2 ** 53 - 1) * 2 ** 971
        half = 2 ** 970
        self.assertEqual(value(b"1.7976931348623157e308"), b"#7fefffffffffffff")
        self.assertEqual(value(b"%d.0" % largest), b"#7fefffffffffffff")
        self.assertEqual(value(b"%d.9" % (largest + half - 1)), b"#7fefffffffffffff")
        self.assertEqual(value(b"%d.0" % (largest + half)), b"#7ff0000000000000")
        self.assertEqual(value(b"-%de0" % (largest + half)), b"#fff0000000000000")
        self.assertEqual(value(b"%d.0" % 2 ** 1024), b"#7ff0000000000000")

    def test_around_the_smallest(self):
        smallest = exact(fractions.Fraction(1, 2 ** 1074))
        half = exact(fractions.Fraction(1, 2 ** 1075))
        self.assertEqual(value(b"5e-324"), b"#0000000000000001")
        self.assertEqual(value(smallest), b"#0000000000000001")
        self.assertEqual(value(half), b"#0000000000000000")
        self.assertEqual(value(b"-" + half), b"#8000000000000000")
        self.assertEqual(value(half + b"0001"), b"#0000000000000001")
        self.assertEqual(value(half[:-1] + b"4"), b"#0000000000000000")
        self.assertEqual(value(exact(fractions.Fraction(3, 2 ** 1075))), b"#0000000000000002")
        self.assertEqual(value(exact(fractions.Fraction(5, 2 ** 1075))), b"#0000000000000002")
        for written in (b"2.4e-324", b"1e-324", b"1e-325", b"1e-400", b"1e-99999999999999999999", b"1e-" + b"9" * 5000,
                        b"0." + b"0" * 400 + b"1", b"9.999e-326", b"0.9e-324"):
            self.assertEqual(value(written), b"#0000000000000000", written)
            self.assertEqual(value(b"-" + written), b"#8000000000000000", written)
        self.check(b"2.5e-324")

    def test_between_those_below_and_the_others(self):
        for top in (2 ** 53 - 3, 2 ** 53 - 2, 2 ** 53 - 1, 2 ** 53, 2 ** 53 + 1, 2 ** 53 + 2, 2 ** 53 + 3):
            self.check(exact(fractions.Fraction(top, 2 ** 1075)))
        self.assertEqual(value(b"2.2250738585072014e-308"), b"#0010000000000000")
        self.assertEqual(value(b"2.2250738585072011e-308"), b"#000fffffffffffff")
        self.assertEqual(value(exact(fractions.Fraction(2 ** 53 - 1, 2 ** 1075))), b"#0010000000000000")

    def test_halfway(self):
        self.assertEqual(value(b"9007199254740993.0"), b"#4340000000000000")
        self.assertEqual(value(b"9007199254740995.0"), b"#4340000000000002")
        self.assertEqual(value(b"9007199254740993." + b"0" * 5000 + b"1"), b"#4340000000000001")
        self.assertEqual(value(b"9007199254740992." + b"9" * 5000), b"#4340000000000000")
        self.assertEqual(value(b"18014398509481983.0"), b"#4350000000000000")
        source = random.Random(5)
        for turn in range(200):
            top = 2 * source.randrange(2 ** 52, 2 ** 53) + 1
            place = source.randrange(-1075, 900)
            scaled = fractions.Fraction(top) * fractions.Fraction(2) ** place
            written = exact(scaled)
            self.check(written)
            if place < 0:
                self.check(written + b"00000001")

    def test_many_digits_and_large_exponents(self):
        self.assertEqual(value(b"0." + b"0" * 9000 + b"1e9001"), double_told(1.0))
        self.assertEqual(value(b"1" + b"0" * 9000 + b"e-9000"), double_told(1.0))
        self.assertEqual(value(b"1" + b"0" * 9000 + b".0e-9001"), double_told(0.1))
        self.assertEqual(value(b"0." + b"3" * 9000), double_told(1 / 3))
        self.assertEqual(value(b"1e" + b"0" * 6000 + b"1"), double_told(10.0))

    def test_others_as_python_reads_them(self):
        source = random.Random(3)
        for turn in range(2000):
            digits = b"%d" % source.randrange(10 ** source.randrange(1, 25))
            fraction = b"".join([b"%d" % source.randrange(10) for place in range(source.randrange(1, 25))])
            self.check(digits + b"." + fraction + b"e%d" % source.randrange(-350, 330))


def exact(number):
    """A fraction whose denominator is a power of two, in tens, with a point, exactly."""
    places = number.denominator.bit_length() - 1
    digits = b"%d" % (number.numerator * 5 ** places)
    if places == 0:
        return digits + b".0"
    digits = digits.rjust(places + 1, b"0")
    return digits[:-places] + b"." + digits[-places:]


if __name__ == "__main__":
    unittest.main()
