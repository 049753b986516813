"""Point 1, "A text": keys and strings."""

import unittest

from helper import read, told, value


def dotted(count):
    return b".".join([b"k%d" % place for place in range(count)])


class Keys(unittest.TestCase):
    def test_bare_keys(self):
        for key in (b"a", b"Z", b"0", b"-", b"_", b"az-AZ_09", b"-1", b"1e5", b"true", b"inf", b"--", b"2000-01-01"):
            self.assertEqual(told(key + b" = 1"), b'{"' + key + b'":1}')

    def test_wrong_bare_keys(self):
        for key in (b"", b"a+b", b"a b", b"a/b", b"a@b", b"\xc3\xa9", b"a:", b"a[0]", b"`", b"{", b"a'b'", b"'a'b", b"^",
                    b"a\\b", b"(a)", b"'a''b'", b"a\"b\""):
            for line in (key + b" = 1", b"[" + key + b"]", b"[[" + key + b"]]", b"x." + key + b" = 1",
                         key + b".x = 1", b"v = {" + key + b" = 1}"):
                self.assertEqual(read(line), [-1, 1], line)

    def test_keys_in_both_quotes(self):
        self.assertEqual(told(b"\"a b\" . 'c.d' . e = 1"), b'{"a b":{"c.d":{"e":1}}}')
        self.assertEqual(told(b"['[a]' . \"]\"]\n'=' = 1"), b'{"[a]":{"]":{"=":1}}}')
        self.assertEqual(told(b"[['#'.\"\\u00e9\\n\"]]"), b'{"#":{"\xc3\xa9\\u000a":[{}]}}')
        self.assertEqual(told(b"v = {'}' = 1, \",\" . ' ' = 2}", b"v"), b'{"}":1,",":{" ":2}}')

    def test_empty_keys_in_quotes(self):
        self.assertEqual(told(b'"" = 1\n[\'x\'.""]'), b'{"":1,"x":{"":{}}}')
        self.assertEqual(told(b"''.''.'' = 1"), b'{"":{"":{"":1}}}')
        self.assertEqual(read(b"\"\" = 1\n'' = 2"), [-2, 2])

    def test_the_same_key_however_it_is_written(self):
        for other in (b"'a'", b'"a"', b'"\\u0061"', b'"\\U00000061"'):
            self.assertEqual(read(b"a = 1\n" + other + b" = 2"), [-2, 2], other)
        self.assertEqual(read(b"'\t' = 1\n\"\\t\" = 2"), [-2, 2])

    def test_keys_differ_by_capitals(self):
        self.assertEqual(told(b"a = 1\nA = 2"), b'{"a":1,"A":2}')

    def test_1_and_32_keys(self):
        for line in (dotted(32) + b" = 1", b"[" + dotted(32) + b"]", b"[[" + dotted(32) + b"]]",
                     b"v = {" + dotted(32) + b" = 1}", dotted(1) + b" = 1", b"[" + dotted(1) + b"]"):
            self.assertEqual(read(line), [0], line)

    def test_33_keys(self):
        for line in (dotted(33) + b" = 1", b"[" + dotted(33) + b"]", b"[[" + dotted(33) + b"]]",
                     b"v = {" + dotted(33) + b" = 1}", b"'" + b"'.'".join([b"k"] * 33) + b"' = 1"):
            self.assertEqual(read(line), [-1, 1], line)

    def test_points_alone(self):
        for keys in (b".", b"a.", b".a", b"a..b", b"a. .b", b"'a'.", b". 'a'"):
            self.assertEqual(read(keys + b" = 1"), [-1, 1], keys)
            self.assertEqual(read(b"[" + keys + b"]"), [-1, 1], keys)
            self.assertEqual(read(b"v = {" + keys + b" = 1}"), [-1, 1], keys)


class Strings(unittest.TestCase):
    def test_between_double_quotes(self):
        self.assertEqual(value(b'""'), b'""')
        self.assertEqual(value(b'"a b#[]{}=\',.\xc3\xa9"'), b'"a b#[]{}=\',.\xc3\xa9"')

    def test_each_escape(self):
        self.assertEqual(value(b'"\\b\\t\\n\\f\\r\\"\\\\"'), b'"\\u0008\\u0009\\u000a\\u000c\\u000d\\"\\\\"')

    def test_escapes_of_characters(self):
        for code in (0x00, 0x41, 0x7E, 0x80, 0x7FF, 0x800, 0xD7FF, 0xE000, 0xFFFD, 0xFFFF):
            for form in ("\\u%04x", "\\u%04X", "\\U%08x", "\\U%08X"):
                written = b'"' + (form % code).encode() + b'"'
                expected = b'"\\u0000"' if code == 0 else b'"' + chr(code).encode() + b'"'
                self.assertEqual(value(written), expected, written)
        for code in (0x10000, 0x1F600, 0xFFFFF, 0x100000, 0x10FFFF):
            written = b'"\\U%08x"' % code
            self.assertEqual(value(written), b'"' + chr(code).encode() + b'"', written)

    def test_each_hexadecimal_digit(self):
        for code in range(0x100, 0x200):
            self.assertEqual(value(b'"\\u%04x\\U%08X"' % (code, code)), b'"' + (chr(code) * 2).encode() + b'"')

    def test_no_surrogates(self):
        for code in (0xD800, 0xDBFF, 0xDC00, 0xDFFF):
            self.assertEqual(value(b'"\\u%04x"' % code), -1)
            self.assertEqual(value(b'"\\U%08x"' % code), -1)
        self.assertEqual(value(b'"\\ud83d\\ude00"'), -1)

    def test_nothing_past_10ffff(self):
        for code in (0x110000, 0x7FFFFFFF, 0x80000000, 0xFFFFFFFF):
            self.assertEqual(value(b'"\\U%08x"' % code), -1)

    def test_as_many_digits_as_are_due(self):
        for written in (b'"\\u"', b'"\\u1"', b'"\\u004"', b'"\\u004g"', b'"\\u00 4"', b'"\\U0000041"', b'"\\U0000004G"',
                        b'"\\u+041"', b'"\\u00', b'"\\u004:"', b'"\\u004@"', b'"\\u004/"', b'"\\u004`"'):
            self.assertEqual(value(written), -1, written)
        self.assertEqual(value(b'"\\u00411"'), b'"A1"')
        self.assertEqual(value(b'"\\U000000411"'), b'"A1"')

    def test_nothing_else_behind_a_backslash(self):
        for sign in range(32, 127):
            if bytes((sign,)) not in b'btnfr"\\uU':
                self.assertEqual(value(b'"\\' + bytes((sign,)) + b'0000"'), -1, sign)
        self.assertEqual(value(b'"\\\xc3\xa9"'), -1)

    def test_double_quotes_left_without_an_end(self):
        for written in (b'"', b'"a', b'"a\\"', b'"\\', b'"\\\\\\"', b'"a\'', b'"""', b'"a"b"'):
            self.assertEqual(value(written), -1, written)

    def test_between_single_quotes(self):
        self.assertEqual(value(b"''"), b'""')
        self.assertEqual(value(b"'a \"b\" #\xc3\xa9'"), b'"a \\"b\\" #\xc3\xa9"')

    def test_no_escapes_between_single_quotes(self):
        self.assertEqual(value(b"'\\n\\u0041\\'"), b'"\\\\n\\\\u0041\\\\"')
        self.assertEqual(value(b"'\\q'"), b'"\\\\q"')

    def test_single_quotes_left_without_an_end(self):
        for written in (b"'", b"'a", b"'a\"", b"'''", b"'a'b'", b"'\\''"):
            self.assertEqual(value(written), -1, written)

    def test_wrong_strings_as_keys(self):
        for key in (b'"', b'"a', b"'a", b'"\\q"', b'"\\ud800"', b'"\\U00110000"'):
            self.assertEqual(read(key + b" = 1"), [-1, 1], key)
            self.assertEqual(read(b"[" + key + b"]"), [-1, 1], key)


if __name__ == "__main__":
    unittest.main()
