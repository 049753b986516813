"""Point 1, "A text": what a line is, and which is the first that is wrong."""

import unittest

from helper import ask, read, st_kind, st_read, st_told, told


class Endings(unittest.TestCase):
    def test_no_lines(self):
        self.assertEqual(told(b""), b"{}")

    def test_lines_end_with_a_line_feed(self):
        self.assertEqual(told(b"a = 1\nb = 2\n"), b'{"a":1,"b":2}')

    def test_behind_the_last_line_feed_is_a_line(self):
        self.assertEqual(told(b"a = 1\nb = 2"), b'{"a":1,"b":2}')
        self.assertEqual(read(b"a = 1\nb"), [-1, 2])
        self.assertEqual(read(b"a = 1\n\n\n!"), [-1, 4])

    def test_one_carriage_return_at_the_end_is_no_part(self):
        self.assertEqual(told(b"a = 1\r\n[b]\r\n\r\n# x\r\n[[c]]\r\nd = 'x'\r"), b'{"a":1,"b":{},"c":[{"d":"x"}]}')
        self.assertEqual(told(b"\r"), b"{}")

    def test_two_carriage_returns_are_wrong(self):
        self.assertEqual(read(b"a = 1\r\r\n"), [-1, 1])
        self.assertEqual(read(b"\r\r"), [-1, 1])

    def test_a_carriage_return_elsewhere_is_wrong(self):
        self.assertEqual(read(b"a = \r1\n"), [-1, 1])
        self.assertEqual(read(b"a = 1\rb = 2\n"), [-1, 1])
        self.assertEqual(read(b"\ra = 1\n"), [-1, 1])

    def test_values_do_not_go_on_in_the_next_line(self):
        self.assertEqual(read(b"a = [1,\n2]"), [-1, 1])
        self.assertEqual(read(b"a = {b = 1,\nc = 2}"), [-1, 1])
        self.assertEqual(read(b"a = 'x\ny'"), [-1, 1])
        self.assertEqual(read(b'a = """\nx"""'), [-1, 1])


class Forms(unittest.TestCase):
    def test_nothing_and_remarks(self):
        self.assertEqual(told(b"\n \n\t \t\n# a = 1\n \t# x\n#\n##\n#[\n"), b"{}")

    def test_remarks_follow(self):
        text = b"a = 1# x\nb = 'x' # x ] }\n[c]# x\n[d] \t # x\n[[e]]# x\n[[f]] # ]\nz = [1]#\ny = {}#\n"
        self.assertEqual(told(text), b'{"a":1,"b":"x","c":{},"d":{},"e":[{}],"f":[{"z":[1],"y":{}}]}')

    def test_no_remark_within(self):
        for text in (b"a # = 1", b"a = # 1", b"[a # ]", b"[[a]#]", b"a = [1 # ]", b"a = {b = 1 # }", b"a. # b = 1"):
            self.assertEqual(read(text), [-1, 1], text)

    def test_a_number_sign_within_quotes_is_no_remark(self):
        self.assertEqual(told(b"'#' = \"#\" # x"), b'{"#":"#"}')

    def test_blanks_around_everything(self):
        text = (b" \ta\t . \tb \t=\t 1 \t# x\n\t[ \tc\t.\t'd' \t]\t \n [[\t e \t. f\t]] \t#\n"
                b" g\t=\t[\t1 ,\t2\t,\t] \nh = {\ti\t=\t1\t,\tj . k\t=\t{\t}\t} \n")
        self.assertEqual(told(text), b'{"a":{"b":1},"c":{"d":{}},"e":{"f":[{"g":[1,2],"h":{"i":1,"j":{"k":{}}}}]}}')

    def test_no_blanks_at_all(self):
        self.assertEqual(told(b"a.b=1\n[c.d]\n[[e.f]]\ng=[1,2]\nh={i=1,j.k={}}"),
                         b'{"a":{"b":1},"c":{"d":{}},"e":{"f":[{"g":[1,2],"h":{"i":1,"j":{"k":{}}}}]}}')

    def test_nothing_between_the_brackets_of_a_row(self):
        for text in (b"[ [a]]", b"[[a] ]", b"[\t[a]]", b"[[a]\t]"):
            self.assertEqual(read(text), [-1, 1], text)

    def test_other_blanks_are_none(self):
        for blank in (b"\x0b", b"\x0c", b"\xc2\xa0", b"\xe2\x80\x83", b"\xef\xbb\xbf"):
            self.assertEqual(read(blank + b"a = 1"), [-1, 1], blank)
            self.assertEqual(read(b"a = 1" + blank), [-1, 1], blank)
            self.assertEqual(read(blank), [-1, 1], blank)

    def test_wrong_lines(self):
        for text in (b"a", b"a =", b"a = ", b"=", b"= 1", b"a 1", b"a == 1", b"a = 1 2", b"a = 1 b = 2", b"a = 1,",
                     b"a = 1 ]", b"a b = 1", b"a: 1", b"!", b"[", b"[]", b"[ ]", b"]", b"[a", b"a]", b"[a]]", b"[a] b",
                     b"[a] b = 1", b"[a]]]", b"[a b]", b"[a][b]", b"[[", b"[[]]", b"[[a", b"[[a]", b"[[a]]]", b"[[[a]]]",
                     b"[[a]] 1", b"[a.]", b"[.a]", b"[[a.]]", b"[[a..b]]", b"a = 'x' 'y'", b"a = 'x'y", b"a = [1]2",
                     b"a = {}{}", b"{}", b"[a=1]", b"[a,b]", b"a = =", b"a =\xc3\xa9", b"/", b"// a"):
            self.assertEqual(read(text), [-1, 1], text)


class Bytes(unittest.TestCase):
    def test_right_utf8(self):
        for character in ("\x80", "\u07ff", "\u0800", "\ud7ff", "\ue000", "\uffff", "\U00010000", "\U0010ffff"):
            row = character.encode()
            self.assertEqual(told(b"a = '" + row + b"' # " + row), b'{"a":"' + row + b'"}')

    def test_wrong_utf8(self):
        wrong = (b"\x80", b"\xbf", b"\xc0\x80", b"\xc0\xaf", b"\xc1\xbf", b"\xe0\x80\x80", b"\xe0\x9f\xbf",
                 b"\xf0\x80\x80\x80", b"\xf0\x8f\xbf\xbf", b"\xed\xa0\x80", b"\xed\xbf\xbf", b"\xf4\x90\x80\x80",
                 b"\xf5\x80\x80\x80", b"\xf7\xbf\xbf\xbf", b"\xf8\x88\x80\x80\x80", b"\xfc\x84\x80\x80\x80\x80",
                 b"\xfe", b"\xff", b"\xc3", b"\xe2\x82", b"\xf0\x9f\x98", b"\xe2", b"\xf0\x9f", b"\xf0", b"\xc3\xc3",
                 b"\xe2\x28\xa1", b"\xe2\x82\x28", b"\xf0\x28\x8c\xbc", b"\xf0\x90\x28\xbc", b"\xc3\x28", b"\xc3\xa9\xa9",
                 b"\xe2\x82\xc0", b"\xe2\x82\x7f")
        for row in wrong:
            for line in (b"# " + row, b"a = '" + row + b"'", b'a = "' + row + b'"', b"'" + row + b"' = 1", row,
                         b"['" + row + b"']", b"a = 1 #" + row + b" "):
                self.assertEqual(read(b"\n" + line + b"\n"), [-1, 2], line)

    def test_a_character_cut_by_the_line_feed(self):
        self.assertEqual(read(b"# \xc3\n# \xa9"), [-1, 1])
        self.assertEqual(read(b"# \xc3\r\n"), [-1, 1])

    def test_every_two_bytes_as_python_takes_them(self):
        for first in range(128, 256):
            for second in (0x20, 0x7E, 0x80, 0x8F, 0x90, 0x9F, 0xA0, 0xBF, 0xC0, 0xFF):
                for rest in (b"", b"\x80", b"\x80\x80", b"\xbf\xbf"):
                    row = bytes((first, second)) + rest
                    try:
                        row.decode()
                        expected = [0]
                    except UnicodeDecodeError:
                        expected = [-1, 1]
                    self.assertEqual(read(b"#" + row), expected, row)

    def test_control_characters(self):
        for sign in [*range(9), *range(11, 32), 127]:
            row = bytes((sign,))
            for line in (b"# " + row + b" ", b"a = '" + row + b"'", b'a = "' + row + b'"', b"'" + row + b"' = 1",
                         b"a = 1 " + row + b" ", row + b"a = 1", b"[" + row + b"a]"):
                self.assertEqual(read(b"\n\n" + line + b"\n"), [-1, 3], line)

    def test_tabs_may_stand_in_strings_and_remarks(self):
        self.assertEqual(told(b"a = '\t' #\t\nb = \"\t\""), b'{"a":"\\u0009","b":"\\u0009"}')

    def test_characters_above_127_are_no_controls(self):
        self.assertEqual(told(b"a = '\xc2\x80\xc2\x9f'"), b'{"a":"\xc2\x80\xc2\x9f"}')


class FirstWrong(unittest.TestCase):
    def test_the_first_is_told(self):
        self.assertEqual(read(b"!\na = 1\n!"), [-1, 1])
        self.assertEqual(read(b"a = 1\n\n# x\n!\n!"), [-1, 4])

    def test_what_can_not_be_ahead_of_what_is_no_line(self):
        self.assertEqual(read(b"a = 1\na = 2\n!"), [-2, 2])
        self.assertEqual(read(b"a = 1\n!\na = 2"), [-1, 2])

    def test_a_line_that_is_none_is_told_so_first(self):
        self.assertEqual(read(b"a = 1\na = 2 2"), [-1, 2])
        self.assertEqual(read(b"a = 1\na = "), [-1, 2])
        self.assertEqual(read(b"a = 1\na = 2 # \xff"), [-1, 2])
        self.assertEqual(read(b"[a]\n[a] x"), [-1, 2])
        self.assertEqual(read(b"a = 1\na = {b = 1, b = 2}"), [-1, 2])

    def test_wrong_bytes_count_only_in_their_line(self):
        self.assertEqual(read(b"a = 1\na = 2\n\xff"), [-2, 2])


class Settings(unittest.TestCase):
    def test_none_behind_a_refusal(self):
        for wrong, refusal in ((b"b = 1\n!", [-1, 2]), (b"b = 1\nb = 2", [-2, 2]), (b"c = {d=1,d=2}", [-1, 1])):
            given = ask(st_read(b"a = 1"), st_read(wrong), st_told(), st_kind(b"a"), st_kind(b"b"), st_kind())
            self.assertEqual(given, [[0], refusal, [2, *b"{}"], [-4], [-4], [6]])

    def test_another_takes_the_place(self):
        given = ask(st_read(b"a = 1\n[t]"), st_read(b"b = 2"), st_told(), st_read(b""), st_told())
        self.assertEqual(given, [[0], [0], [7, *b'{"b":2}'], [0], [2, *b"{}"]])

    def test_reading_goes_on_behind_a_refusal(self):
        given = ask(st_read(b"!"), st_read(b"a = 1"), st_told(b"a"))
        self.assertEqual(given, [[-1, 1], [0], [1, *b"1"]])

    def test_the_whole_is_where_settings_go_first_each_time(self):
        given = ask(st_read(b"[t]\na = 1"), st_read(b"a = 1\n[t]"), st_told())
        self.assertEqual(given[2], [14, *b'{"a":1,"t":{}}'])

    def test_more_than_65536_bytes_change_nothing(self):
        given = ask(st_read(b"a = 1"), st_read(b" " * 65537), st_told(b"a"), st_read(b" " * 65536), st_told())
        self.assertEqual(given, [[0], [-3], [1, *b"1"], [0], [2, *b"{}"]])


if __name__ == "__main__":
    unittest.main()
