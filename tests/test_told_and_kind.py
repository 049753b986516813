"""Point 3, and st_kind of point 4."""

import unittest

from helper import ask, kind, st_kind, st_read, st_told, told

KINDS = (
    (b"''", 0), (b'"x"', 0), (b"0", 1), (b"-5", 1), (b"0xff", 1), (b"0.0", 2), (b"1e5", 2), (b"inf", 2), (b"-nan", 2),
    (b"true", 3), (b"false", 3), (b"2000-01-01", 4), (b"0000-01-01", 4), (b"[]", 5), (b"[1]", 5), (b"[{}]", 5), (b"{}", 6),
    (b"{a = 1}", 6))


class Told(unittest.TestCase):
    def test_texts(self):
        self.assertEqual(told(b"a = ''", b"a"), b'""')
        self.assertEqual(told(b"a = 'it\"s \\ x/'", b"a"), b'"it\\"s \\\\ x/"')
        self.assertEqual(told(b"a = \"\xc3\xa9\xf0\x9f\x98\x80'\"", b"a"), b"\"\xc3\xa9\xf0\x9f\x98\x80'\"")

    def test_each_byte_of_a_text(self):
        for sign in range(128):
            expected = bytes((sign,))
            if sign < 32 or sign == 127:
                expected = b"\\u00%02x" % sign
            elif expected in b'"\\':
                expected = b"\\" + expected
            self.assertEqual(told(b'a = "\\u%04x"' % sign, b"a"), b'"' + expected + b'"')
            self.assertEqual(told(b'"\\u%04x" = 1' % sign), b'{"' + expected + b'":1}')

    def test_whole_numbers(self):
        for written, expected in ((b"+0", b"0"), (b"-1_0", b"-10"), (b"0xFF", b"255"), (b"+7", b"7")):
            self.assertEqual(told(b"a = " + written, b"a"), expected)

    def test_real_numbers(self):
        for written, expected in ((b"1.0", b"#3ff0000000000000"), (b"-2e0", b"#c000000000000000"),
                                  (b"0.1", b"#3fb999999999999a"), (b"-0.0", b"#8000000000000000"),
                                  (b"0.0", b"#0000000000000000"), (b"-nan", b"#fff8000000000000")):
            self.assertEqual(told(b"a = " + written, b"a"), expected)

    def test_truths_and_days(self):
        self.assertEqual(told(b"a = true\nb = false\nc = 1970-01-01\nd = 1969-12-01\ne = 1971-01-01"),
                         b'{"a":true,"b":false,"c":@0,"d":@-31,"e":@365}')

    def test_lists_rows_and_tables(self):
        self.assertEqual(told(b"a = [ ]\nb = { }\nc = [1, [2, 3], {d = 4, e = 5}]\n[[f]]\n[[f]]\ng = 6"),
                         b'{"a":[],"b":{},"c":[1,[2,3],{"d":4,"e":5}],"f":[{},{"g":6}]}')
        self.assertEqual(told(b""), b"{}")

    def test_most_just_enough_and_one_too_few(self):
        for written, expected in ((b"''", b'""'), (b"'ab\\'", b'"ab\\\\"'), (b'"\\n"', b'"\\u000a"'), (b"7", b"7"),
                                  (b"-123", b"-123"), (b"1.0", b"#3ff0000000000000"), (b"true", b"true"),
                                  (b"false", b"false"), (b"1969-12-31", b"@-1"), (b"[]", b"[]"), (b"[1,2]", b"[1,2]"),
                                  (b"{}", b"{}"), (b"{a=1,b={c=[]}}", b'{"a":1,"b":{"c":[]}}')):
            size = len(expected)
            given = ask(st_read(b"v = " + written), st_told(b"v", size), st_told(b"v", size - 1), st_told(b"v", 0),
                        st_told(b"v", size + 1), st_told(b"", size + 6), st_told(b"", size + 5))
            whole = b'{"v":' + expected + b"}"
            self.assertEqual(given, [[0], [size, *expected], [-6], [-6], [size, *expected], [size + 6, *whole], [-6]])

    def test_refusals_ahead_of_too_few(self):
        given = ask(st_read(b"a = 1"), st_told(b"x", 0), st_told(b"x!", 0), st_told(b"a", 0))
        self.assertEqual(given, [[0], [-4], [-5], [-6]])

    def test_telling_changes_nothing(self):
        text = b"a = [1, {b = 2}]\n[[r]]\nx.y = 1"
        given = ask(st_read(text), st_told(), st_told(b"", 3), st_told(b"a"), st_told())
        self.assertEqual(given[1], given[4])


class Kind(unittest.TestCase):
    def test_each_kind(self):
        for written, expected in KINDS:
            self.assertEqual(kind(b"a = " + written, b"a"), expected, written)
            self.assertEqual(kind(b"a.b = {c = [0, " + written + b"]}", b"a.b.c.1"), expected, written)

    def test_tables_and_rows(self):
        text = b"a.b = 1\n[c.d]\n[[e.f]]\n[[e.f]]"
        for path, expected in ((b"", 6), (b"a", 6), (b"c", 6), (b"c.d", 6), (b"e", 6), (b"e.f", 5), (b"e.f.0", 6),
                               (b"e.f.1", 6), (b"a.b", 1)):
            self.assertEqual(kind(text, path), expected, path)

    def test_refusals(self):
        given = ask(st_read(b"a = 1"), st_kind(b"b"), st_kind(b"a."), st_kind(b"a"))
        self.assertEqual(given, [[0], [-4], [-5], [1]])


if __name__ == "__main__":
    unittest.main()
