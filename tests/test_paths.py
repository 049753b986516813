"""Point 2: paths, and the refusals -3, -4 and -5 of the calls that take one."""

import unittest

from helper import PATH_CALLS, answer, ask, count, kind, st_count, st_kind, st_read, st_real, st_told, st_whole, told

TEXT = b"""
a.b = 1
'c d' = 'x'
"\\n" = 2
"" = 3
1 = 'one'
01 = 'zero one'
l = [10, [20, 21], {m = 30, 0 = 31}]
e = []
b = {x.y = 4}
[[r]]
n = 5
[[r]]
n = 6
[r.s]
t = 7
"""


class Paths(unittest.TestCase):
    def leads(self, path, expected):
        self.assertEqual(told(TEXT, path), expected, path)
        for call in PATH_CALLS:
            self.assertNotIn(answer(call, TEXT, path)[0], (-3, -4, -5), path)

    def refused(self, path, refusal):
        self.assertEqual(told(TEXT, path), refusal, path)
        for call in PATH_CALLS:
            self.assertEqual(answer(call, TEXT, path), [refusal], path)

    def test_nothing_and_blanks_alone_are_the_whole(self):
        for path in (b"", b" ", b"\t", b" \t \t"):
            self.assertEqual(told(b"a = 1", path), b'{"a":1}')
            self.assertEqual(kind(b"a = 1", path), 6)
            self.assertEqual(count(b"a = 1\nb = 2", path), 2)
            self.assertEqual(answer(st_whole, b"a = 1", path), [-7])
            self.assertEqual(answer(st_real, b"a = 1.0", path), [-7])
            self.assertEqual(told(b"", path), b"{}")
            self.assertEqual(count(b"", path), 0)

    def test_keys(self):
        self.leads(b"a", b'{"b":1}')
        self.leads(b"a.b", b"1")
        self.leads(b" a\t.\t b ", b"1")
        self.leads(b"'a'.\"b\"", b"1")
        self.leads(b'"\\u0061".b', b"1")
        self.leads(b"'c d'", b'"x"')
        self.leads(b'"c\\u0020d"', b'"x"')
        self.leads(b'""', b"3")
        self.leads(b"''", b"3")
        self.leads(b'"\\n"', b"2")

    def test_tables_in_braces(self):
        self.leads(b"b", b'{"x":{"y":4}}')
        self.leads(b"b.x.y", b"4")

    def test_numbers_are_a_tables_keys_too(self):
        self.leads(b"1", b'"one"')
        self.leads(b"01", b'"zero one"')
        self.leads(b"l.2.0", b"31")

    def test_numbers_into_lists(self):
        self.leads(b"l.0", b"10")
        self.leads(b"l.1", b"[20,21]")
        self.leads(b"l.1.1", b"21")
        self.leads(b"l.2.m", b"30")
        self.leads(b"l.'0'", b"10")
        self.leads(b'l . "1" . "\\u0030"', b"20")

    def test_numbers_into_rows(self):
        self.leads(b"r.0", b'{"n":5}')
        self.leads(b"r.1.n", b"6")
        self.leads(b"r.1.s.t", b"7")
        self.leads(b"r", b'[{"n":5},{"n":6,"s":{"t":7}}]')

    def test_many_members(self):
        text = b"l = [" + b",".join([b"%d" % (number * number) for number in range(1002)]) + b"]"
        for number in (0, 9, 10, 99, 100, 999, 1000, 1001):
            self.assertEqual(told(text, b"l.%d" % number), b"%d" % (number * number))
        for number in (1002, 1010, 10000, 99999):
            self.assertEqual(told(text, b"l.%d" % number), -4)
        for key in (b"00", b"01", b"001", b"0001", b"0100", b"1 0", b"-10", b"1a", b"a1"):
            self.assertEqual(told(text, b"l.'" + key + b"'"), -4)

    def test_nothing_there(self):
        for path in (b"x", b"a.x", b"A", b"a.b.c", b"a.b.0", b"'c d'.0", b"'c'", b"x.y.z", b"' a'", b"'a.b'", b"a.b.''",
                     b"r.2", b"r.n", b"r.s", b"l.3", b"l.m", b"e.0", b"001", b"'1 '"):
            self.refused(path, -4)

    def test_what_is_no_number_into_a_list(self):
        for path in (b"l.00", b"l.01", b"l.-1", b"l.-0", b"l.''", b"l.'+1'", b"l.' 1'", b"l.'1 '", b"l.0x1", b"l.1_0", b"l.a",
                     b"l.'1.0'", b"l.1e0", b"r.00", b"r.01", b"l.\"\xd9\xa1\"", b"l.'/'", b"l.':'", b"l.0a",
                     b"l.18446744073709551616", b"l.4294967296", b"l.1" + b"0" * 6000, b"l." + b"0" * 6000, b"l.000001"):
            self.refused(path, -4)

    def test_any_bytes_within_quotes(self):
        for sign in range(256):
            row = bytes((sign,))
            if row not in b"'":
                self.refused(b"'x" + row + b"'", -4)
            if row not in b'"\\':
                self.refused(b'"x' + row + b'"', -4)
        for row in (b"\xff\xfe", b"\xc0\x80", b"\xed\xa0\x80", b"\xf4\x90\x80\x80", b"\xc3", b"\x00", b"\r\n", b"\x7f"):
            self.refused(b"'" + row + b"'", -4)
            self.refused(b'a."' + row + b'"', -4)
            self.refused(b'l."' + row + b'"', -4)

    def test_a_key_is_its_bytes(self):
        self.leads(b"'\n'", b"2")
        self.leads(b'"\n"', b"2")

    def test_no_path(self):
        for path in (b".", b"a.", b".a", b"a..b", b"a b", b"a,b", b"a=", b"[a]", b"a]", b"#", b"a # x", b"a#", b"+", b"a+b",
                     b"'", b"'a", b'"', b'"a', b'"\\q"', b'"\\ud800"', b'"\\U00110000"', b'"\\u00"', b"'a'b", b"a'b'", b"a/b",
                     b"\xc3\xa9", b"\xff", b"a\n", b"\na", b"a\r", b"\n", b"\r", b"\x00", b"\x0b", b"\x7f", b"a.\xff", b"{}",
                     b"l[0]", b"x.", b"x.'", b"a.b.c.", b" . ", b"a .", b"''''", b"-.+", b"@", b"`", b"[", b"{", b"/", b":"):
            self.refused(path, -5)

    def test_no_path_is_told_even_where_nothing_stands(self):
        given = ask(st_read(b"!"), st_told(b"x."), *[call(b"x.") for call in PATH_CALLS], *[call(b"x") for call in PATH_CALLS])
        self.assertEqual(given, [[-1, 1], *[[-5]] * 5, *[[-4]] * 4])

    def test_32_keys_and_33(self):
        keys = [b"k"] * 32
        text = b".".join(keys) + b" = {k = 1}"
        self.assertEqual(told(text, b".".join(keys)), b'{"k":1}')
        self.assertEqual(told(text, b" . ".join(keys)), b'{"k":1}')
        self.assertEqual(told(text, b".".join(keys + [b"k"])), -5)
        self.assertEqual(count(text, b".".join(keys)), 1)
        for call in PATH_CALLS:
            self.assertEqual(answer(call, text, b".".join(keys + [b"k"])), [-5])
            self.assertEqual(answer(call, text, b".".join([b"x"] * 32)), [-4])
            self.assertEqual(answer(call, text, b".".join([b"x"] * 33)), [-5])

    def test_too_large(self):
        given = ask(st_read(b"a = 1"), st_told(b"a", 1048576), st_told(b"a", 1048577), st_told(b"a", 4294967295),
                    st_told(b"x", 1048577), st_told(b"!", 1048577), st_told(b"a"))
        self.assertEqual(given, [[0], [1, *b"1"], [-3], [-3], [-3], [-3], [1, *b"1"]])

    def test_more_than_65536_bytes(self):
        long = b"a" + b" " * 65535
        given = ask(st_read(b"a = 1"), st_told(long), st_kind(long), st_count(long), st_whole(long), st_real(long))
        self.assertEqual(given, [[0], [1, *b"1"], [1], [1], [0, 1], [-7]])
        longer = long + b" "
        given = ask(st_read(b"a = 1"), st_told(longer), *[call(longer) for call in PATH_CALLS], st_whole(b"a"))
        self.assertEqual(given, [[0], *[[-3]] * 5, [0, 1]])


if __name__ == "__main__":
    unittest.main()
