"""st_count of point 4, and point 5: st_whole and st_real."""

import unittest

from helper import answer, ask, count, double_bits, st_count, st_kind, st_read, st_real, st_told, st_whole

# One value of each kind, and more where a kind has several forms; with the kind.
VALUES = (
    (b"''", 0), (b"'1'", 0), (b"'1.0'", 0), (b"0", 1), (b"1", 1), (b"-5", 1), (b"0xff", 1), (b"0o17", 1), (b"0b11", 1),
    (b"1.0", 2), (b"0.0", 2), (b"1e5", 2), (b"inf", 2), (b"-nan", 2), (b"true", 3), (b"false", 3), (b"1970-01-01", 4),
    (b"1970-01-02", 4), (b"[]", 5), (b"[1]", 5), (b"[1.0]", 5), (b"{}", 6), (b"{a = 1}", 6), (b"{a = 1.0}", 6))

# Tables and rows however they are made, and what is in them.
TEXT = b"""
t.u = 7
l = [10, [20, 2.5], {m = -30, 0 = 1.5}]
[w.v]
x = 0x10
[[r]]
n = 5
[[r]]
n = -6.0
s = [8]
[[r.q]]
"""


class Count(unittest.TestCase):
    def counted(self, written, expected):
        """The value that is written so is counted so, wherever it stands."""
        self.assertEqual(count(b"v = " + written, b"v"), expected, written)
        self.assertEqual(count(b"v = [0, " + written + b"]", b"v.1"), expected, written)
        self.assertEqual(count(b"[[r]]\nv = {w = " + written + b"}", b"r.0.v.w"), expected, written)

    def test_texts(self):
        for written, expected in ((b"''", 0), (b'""', 0), (b"'a'", 1), (b"'abc def'", 7), (b'"abc"', 3), (b"' '", 1)):
            self.counted(written, expected)

    def test_bytes_not_characters(self):
        for character, expected in (("\x7e", 1), ("\x80", 2), ("\u07ff", 2), ("\u0800", 3), ("\uffff", 3), ("\U00010000", 4),
                                    ("\U0010ffff", 4), ("e\u0301", 3), ("\u00e9\u20ac\U0001f600", 9)):
            self.counted(b"'" + character.encode() + b"'", expected)
            self.counted(b'"' + character.encode() + b'"', expected)

    def test_an_escape_is_what_it_stands_for(self):
        for written, expected in ((b'"\\b\\t\\n\\f\\r\\"\\\\"', 7), (b'"\\u0000"', 1), (b'"\\u0041"', 1), (b'"\\u00e9"', 2),
                                  (b'"\\u20ac"', 3), (b'"\\U0001F600"', 4), (b'"\\U00000041"', 1), (b'"a\\\\b"', 3)):
            self.counted(written, expected)

    def test_no_escapes_between_single_quotes(self):
        self.counted(b"'\\n'", 2)
        self.counted(b"'\\u00e9'", 6)
        self.counted(b"'\"'", 1)

    def test_lists(self):
        for written, expected in ((b"[]", 0), (b"[ ]", 0), (b"[1]", 1), (b"[1,]", 1), (b"[1, 2, 3]", 3), (b"[1, 1, 1,]", 3),
                                  (b"[[]]", 1), (b"[[1, 2, 3], []]", 2), (b"[{a = 1, b = 2}]", 1), (b"['abc', {}]", 2)):
            self.counted(written, expected)

    def test_tables_in_braces(self):
        for written, expected in ((b"{}", 0), (b"{ }", 0), (b"{a = 1}", 1), (b"{a = 1, b = 2, c = [1, 2]}", 3),
                                  (b"{a.b = 1, a.c = 2}", 1), (b"{a = {b = 1, c = 2}}", 1), (b"{'' = 1, ' ' = 2}", 2)):
            self.counted(written, expected)

    def test_tables_and_rows(self):
        for path, expected in ((b"", 4), (b"t", 1), (b"l", 3), (b"l.1", 2), (b"l.2", 2), (b"w", 1), (b"w.v", 1), (b"r", 2),
                               (b"r.0", 1), (b"r.1", 3), (b"r.1.s", 1), (b"r.1.q", 1), (b"r.1.q.0", 0)):
            self.assertEqual(count(TEXT, path), expected, path)
        self.assertEqual(count(b"[[r]]\n" * 5, b"r"), 5)
        self.assertEqual(count(b"[t]\n[t.a]\n[t.b.c]\n[[t.d]]\n[[t.d]]", b"t"), 3)

    def test_the_whole(self):
        for text, expected in ((b"", 0), (b"\n# x\n", 0), (b"a = 1", 1), (b"a = 1\nb = 2\n[c]\nd = 3\ne = 4\n[[f]]\n[[f]]", 4),
                               (b"a.b = 1\na.c = 2", 1)):
            self.assertEqual(count(text), expected, text)

    def test_all_else_is_1(self):
        for written, kind in VALUES:
            if kind in (1, 2, 3, 4):
                self.counted(written, 1)
        for written in (b"123456", b"-9223372036854775808", b"12.5e7", b"-inf", b"nan", b"-0.0", b"9999-12-31"):
            self.counted(written, 1)

    def test_as_many_as_may_be(self):
        self.assertEqual(count(b"a = '" + b"x" * 29000 + b"'", b"a"), 29000)
        self.assertEqual(count(b"a = [" + b"1," * 14000 + b"]", b"a"), 14000)
        self.assertEqual(count(b"[[a]]\n" * 4900, b"a"), 4900)
        self.assertEqual(count(b"".join([b"%d=1\n" % number for number in range(3500)])), 3500)


class Whole(unittest.TestCase):
    def test_numbers(self):
        for written, number in ((b"0", 0), (b"+0", 0), (b"-0", 0), (b"1", 1), (b"-1", -1), (b"+7", 7), (b"1_000", 1000),
                                (b"-42", -42), (b"4294967296", 2 ** 32), (b"-4294967297", -2 ** 32 - 1)):
            self.assertEqual(answer(st_whole, b"a = " + written, b"a"), [0, number], written)

    def test_both_ends(self):
        for number in (2 ** 63 - 1, 2 ** 63 - 2, -2 ** 63, -2 ** 63 + 1):
            self.assertEqual(answer(st_whole, b"a = %d" % number, b"a"), [0, number])

    def test_each_base(self):
        for written, number in ((b"0xff", 255), (b"0xDEAD_beef", 0xDEADBEEF), (b"0x0", 0), (b"0o17", 15), (b"0o007", 7),
                                (b"0b1010", 10), (b"0b0", 0), (b"0x7fffffffffffffff", 2 ** 63 - 1),
                                (b"0o777777777777777777777", 2 ** 63 - 1), (b"0b" + b"1" * 63, 2 ** 63 - 1)):
            self.assertEqual(answer(st_whole, b"a = " + written, b"a"), [0, number], written)

    def test_each_other_kind(self):
        for written, kind in VALUES:
            given = answer(st_whole, b"a = " + written, b"a")
            self.assertEqual(given == [-7], kind != 1, written)
            self.assertEqual(len(given), 2 if kind == 1 else 1)

    def test_each_other_kind_of_table_and_rows(self):
        for path in (b"", b"t", b"l", b"l.1", b"l.1.1", b"l.2", b"l.2.0", b"w", b"w.v", b"r", b"r.0", b"r.1.n", b"r.1.q.0"):
            self.assertEqual(answer(st_whole, TEXT, path), [-7], path)

    def test_members(self):
        for path, number in ((b"t.u", 7), (b"l.0", 10), (b"l.'0'", 10), (b"l.1.0", 20), (b"l.2.m", -30), (b"w.v.x", 16),
                             (b"r.0.n", 5), (b" r . 1 . s . 0 ", 8)):
            self.assertEqual(answer(st_whole, TEXT, path), [0, number], path)


class Real(unittest.TestCase):
    def test_numbers(self):
        for written in (b"0.0", b"1.0", b"-1.0", b"0.1", b"-2.5", b"1e5", b"-1E-5", b"3.141592653589793", b"1_0.5", b"5e-324",
                        b"1.7976931348623157e308", b"-1.7976931348623157e308"):
            self.assertEqual(answer(st_real, b"a = " + written, b"a"), [0, double_bits(float(written))], written)

    def test_bits(self):
        for written, bits in ((b"0.0", 0), (b"+0.0", 0), (b"-0.0", 2 ** 63), (b"1.0", 0x3FF0000000000000),
                              (b"-1.0", 0xBFF0000000000000), (b"inf", 0x7FF0000000000000), (b"+inf", 0x7FF0000000000000),
                              (b"-inf", 0xFFF0000000000000), (b"nan", 0x7FF8000000000000), (b"+nan", 0x7FF8000000000000),
                              (b"-nan", 0xFFF8000000000000), (b"1e400", 0x7FF0000000000000), (b"-1e400", 0xFFF0000000000000),
                              (b"1e-400", 0), (b"-1e-400", 2 ** 63), (b"5e-324", 1), (b"-5e-324", 2 ** 63 + 1)):
            self.assertEqual(answer(st_real, b"a = " + written, b"a"), [0, bits], written)

    def test_each_other_kind(self):
        for written, kind in VALUES:
            given = answer(st_real, b"a = " + written, b"a")
            self.assertEqual(given == [-7], kind != 2, written)
            self.assertEqual(len(given), 2 if kind == 2 else 1)

    def test_each_other_kind_of_table_and_rows(self):
        for path in (b"", b"t", b"t.u", b"l", b"l.0", b"l.1", b"l.1.0", b"l.2", b"w", b"w.v", b"r", b"r.0", b"r.0.n", b"r.1.q.0"):
            self.assertEqual(answer(st_real, TEXT, path), [-7], path)

    def test_members(self):
        for path, number in ((b"l.1.1", 2.5), (b"l.2.0", 1.5), (b"l.\"2\".'0'", 1.5), (b"r.1.n", -6.0), (b"\tr . '1' . n", -6.0)):
            self.assertEqual(answer(st_real, TEXT, path), [0, double_bits(number)], path)


class Refusals(unittest.TestCase):
    def test_where_nothing_stands(self):
        for path in (b"x", b"t.x", b"t.u.0", b"l.3", b"l.00", b"l.-1", b"l.m", b"r.2", b"r.n", b"r.01", b"r.1.q.1", b"l.0.0",
                     b"''", b"'\xff'", b"l.1.1.0"):
            for call in (st_count, st_whole, st_real):
                self.assertEqual(answer(call, TEXT, path), [-4], path)

    def test_no_path(self):
        for path in (b".", b"t.", b".t", b"l..0", b"l 0", b"l[0]", b"t.u = 7", b"t.u # x", b"'t", b'"\\q"', b"\xff", b"t\n"):
            for call in (st_count, st_whole, st_real):
                self.assertEqual(answer(call, TEXT, path), [-5], path)

    def test_behind_a_text_that_was_refused(self):
        for wrong, refusal in ((b"a = 1\nb = 1.0\n!", [-1, 3]), (b"a = 1\nb = 1.0\na = 2", [-2, 3])):
            given = ask(st_read(b"a = 1\nb = 1.0"), st_read(wrong), st_count(), st_whole(), st_real(), st_count(b"a"),
                        st_whole(b"a"), st_real(b"b"), st_count(b" \t"), st_count(b"a."), st_whole(b"a."), st_real(b"."))
            self.assertEqual(given, [[0], refusal, [0], [-7], [-7], [-4], [-4], [-4], [0], [-5], [-5], [-5]])

    def test_asking_changes_nothing(self):
        calls = [st_count(b"l"), st_whole(b"l.0"), st_real(b"l.1.1"), st_whole(b"l"), st_real(b"x"), st_count(b"x."), st_kind(),
                 st_told()]
        given = ask(st_read(TEXT), *calls, *calls)
        self.assertEqual(given[1:9], given[9:])


if __name__ == "__main__":
    unittest.main()
