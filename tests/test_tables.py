"""Point 1, "What they say": settings, tables' lines and rows' lines."""

import unittest

from helper import read, told


class Case(unittest.TestCase):
    def says(self, text, expected):
        self.assertEqual(told(text), expected, text)

    def can_not_be(self, text):
        """The last line can't be, and those before it can."""
        lines = text.split(b"\n")
        self.assertEqual(read(b"\n".join(lines[:-1])), [0], text)
        self.assertEqual(read(text), [-2, len(lines)], text)


class Settings(Case):
    def test_the_order_is_that_in_which_they_came(self):
        self.says(b"b = 1\na = 2\nc.d = 3\nB = 4\nc.a = 5", b'{"b":1,"a":2,"c":{"d":3,"a":5},"B":4}')

    def test_one_key(self):
        self.says(b"a = 1\n[t]\na = 2\n[u]\na = 3", b'{"a":1,"t":{"a":2},"u":{"a":3}}')

    def test_the_same_key_twice(self):
        self.can_not_be(b"a = 1\na = 1")
        self.can_not_be(b"[t]\na = 1\na = 2")
        self.can_not_be(b"[[r]]\na = 1\na = 2")
        self.can_not_be(b"a.b = 1\na.b = 2")
        self.can_not_be(b"a.b.c = 1\na.b.c = 2")

    def test_tables_are_made_where_there_is_none(self):
        self.says(b"a.b.c = 1", b'{"a":{"b":{"c":1}}}')
        self.says(b"[t]\na.b = 1", b'{"t":{"a":{"b":1}}}')

    def test_those_made_by_keys_are_gone_into(self):
        self.says(b"a.b = 1\nx = 2\na.c = 3\na.d.e = 4\na.d.f = 5", b'{"a":{"b":1,"c":3,"d":{"e":4,"f":5}},"x":2}')
        self.says(b"[[r]]\na.b = 1\na.c = 2", b'{"r":[{"a":{"b":1,"c":2}}]}')

    def test_anything_else_on_the_way(self):
        for value in (b"1", b"1.5", b"'x'", b"true", b"2000-01-01", b"[]", b"[{}]", b"{}", b"{b.c = 1}"):
            self.can_not_be(b"a = " + value + b"\na.b = 1")
            self.can_not_be(b"x.a = " + value + b"\nx.a.b = 1")
            self.can_not_be(b"a = " + value + b"\na.b.c = 1")

    def test_what_keys_made_is_there(self):
        self.can_not_be(b"a.b = 1\na = 2")
        self.can_not_be(b"a.b.c = 1\na.b = 2")
        self.can_not_be(b"a.b = 1\na = {}")

    def test_tables_of_lines_are_not_gone_into(self):
        self.can_not_be(b"[t.u]\n[t]\nu.a = 1")
        self.can_not_be(b"[t.u.v]\n[t]\nu.a = 1")
        self.can_not_be(b"[t.u.v]\n[t]\nu.v.a = 1")
        self.can_not_be(b"[[t.u]]\n[t]\nu.a = 1")
        self.can_not_be(b"[[t.u.v]]\n[t]\nu.a = 1")
        self.can_not_be(b"[t.u]\n[t]\nu = 1")
        self.can_not_be(b"[[t.u]]\n[t]\nu = []")

    def test_the_way_starts_at_the_table_that_lines_chose(self):
        self.says(b"a.b = 1\n[t]\na.b = 1\n[t.a.c]\na.b = 1", b'{"a":{"b":1},"t":{"a":{"b":1,"c":{"a":{"b":1}}}}}')


class TablesLines(Case):
    def test_tables_are_made(self):
        self.says(b"[a]\n[b.c.d]\nx = 1\n[b.e]", b'{"a":{},"b":{"c":{"d":{"x":1}},"e":{}}}')

    def test_the_keys_lead_from_the_whole_on(self):
        self.says(b"[a]\n[b]\n[a.b]", b'{"a":{"b":{}},"b":{}}')

    def test_one_only_made_on_the_way_is_it(self):
        self.says(b"[a.b]\nx = 1\n[a]\ny = 2", b'{"a":{"b":{"x":1},"y":2}}')
        self.says(b"[a.b.c]\n[a.b]\nx = 1\n[a]\nx = 2", b'{"a":{"b":{"c":{},"x":1},"x":2}}')
        self.says(b"[[a.b]]\n[a]\nx = 1", b'{"a":{"b":[{}],"x":1}}')

    def test_only_once(self):
        self.can_not_be(b"[a]\n[a]")
        self.can_not_be(b"[a.b]\n[a]\n[a]")
        self.can_not_be(b"[a.b]\n[a.b]")
        self.can_not_be(b"[a]\n[a.b]\n[a]")
        self.can_not_be(b"[a.b.c]\n[a.b]\n[a]\n[a.b]")
        self.can_not_be(b"[a]\n[b]\n[a]")
        self.can_not_be(b"[[r]]\n[r.a]\n[r.a]")

    def test_going_through_does_not_make_it_only_on_the_way(self):
        self.can_not_be(b"[a]\n[a.b.c]\n[a.b.d]\n[a]")
        self.says(b"[a.b.c]\n[a.b.d]\n[a.b]\nx = 1", b'{"a":{"b":{"c":{},"d":{},"x":1}}}')

    def test_tables_made_by_a_settings_keys(self):
        self.says(b"a.b = 1\n[a.c]\nx = 1", b'{"a":{"b":1,"c":{"x":1}}}')
        self.says(b"[t]\na.b.c = 1\n[t.a.b.d]\nx = 1", b'{"t":{"a":{"b":{"c":1,"d":{"x":1}}}}}')
        self.can_not_be(b"a.b = 1\n[a]")
        self.can_not_be(b"a.b.c = 1\n[a.b]")
        self.can_not_be(b"[t]\na.b = 1\n[t.a]")

    def test_tables_in_braces(self):
        self.can_not_be(b"a = {}\n[a]")
        self.can_not_be(b"a = {}\n[a.b]")
        self.can_not_be(b"a = {b.c = 1}\n[a.b.d]")
        self.can_not_be(b"a = {b = {}}\n[a.b]")
        self.can_not_be(b"x.a = {}\n[x.a.b]")

    def test_other_values(self):
        for value in (b"1", b"1.5", b"'x'", b"true", b"2000-01-01", b"[]", b"[{}]", b"[{b = 1}]"):
            self.can_not_be(b"a = " + value + b"\n[a]")
            self.can_not_be(b"a = " + value + b"\n[a.b]")
            self.can_not_be(b"[t]\na = " + value + b"\n[t.a]")
            self.can_not_be(b"[t]\na = " + value + b"\n[t.a.b]")

    def test_rows(self):
        self.can_not_be(b"[[a]]\n[a]")
        self.can_not_be(b"[[a.b]]\n[a.b]")
        self.says(b"[[a]]\n[a.b]\nx = 1\n[[a]]\n[a.b]\nx = 2\n[a.c.d]",
                  b'{"a":[{"b":{"x":1}},{"b":{"x":2},"c":{"d":{}}}]}')

    def test_it_is_where_settings_go(self):
        self.says(b"x = 1\n[a.b]\nx = 2\n[a]\nx = 3\n[a.b.c]\nx = 4", b'{"x":1,"a":{"b":{"x":2,"c":{"x":4}},"x":3}}')


class RowsLines(Case):
    def test_rows_are_made_and_added_to(self):
        self.says(b"[[a]]\n[[a]]\nx = 1\n[[a]]\nx = 2", b'{"a":[{},{"x":1},{"x":2}]}')
        self.says(b"[[a.b]]\nx = 1\n[[a.b]]\nx = 2\n[a.c]", b'{"a":{"b":[{"x":1},{"x":2}],"c":{}}}')

    def test_other_lines_between(self):
        self.says(b"[[a]]\n[b]\n[[c]]\n[[a]]\nx = 1", b'{"a":[{},{"x":1}],"b":{},"c":[{}]}')

    def test_the_keys_lead_into_the_last_row(self):
        self.says(b"[[a]]\n[[a.b]]\nx = 1\n[[a.b]]\nx = 2\n[[a]]\n[[a.b]]\nx = 3\n[a.b.c]",
                  b'{"a":[{"b":[{"x":1},{"x":2}]},{"b":[{"x":3,"c":{}}]}]}')
        self.says(b"[[a]]\nb.c = 1\n[a.b.d]\n[[a]]\n[[a.b.d]]", b'{"a":[{"b":{"c":1,"d":{}}},{"b":{"d":[{}]}}]}')

    def test_tables_are_no_rows(self):
        self.can_not_be(b"[a]\n[[a]]")
        self.can_not_be(b"[a.b]\n[[a]]")
        self.can_not_be(b"[a.b]\n[[a.b]]")
        self.can_not_be(b"a.b = 1\n[[a]]")
        self.can_not_be(b"[[a.b]]\n[[a]]")

    def test_written_values_are_no_rows(self):
        for value in (b"1", b"1.5", b"'x'", b"true", b"2000-01-01", b"[]", b"[{}]", b"{}", b"{b = [{}]}", b"{b.c = 1}"):
            self.can_not_be(b"a = " + value + b"\n[[a]]")
            self.can_not_be(b"a = " + value + b"\n[[a.b]]")
            self.can_not_be(b"t.a = " + value + b"\n[[t.a]]")
            self.can_not_be(b"t.a = " + value + b"\n[[t.a.b]]")

    def test_through_tables(self):
        self.says(b"[a]\n[[a.b]]\n[a.c]\n[[a.b]]", b'{"a":{"b":[{},{}],"c":{}}}')
        self.says(b"a.b = 1\n[[a.c]]\nx = 1", b'{"a":{"b":1,"c":[{"x":1}]}}')

    def test_settings_do_not_go_through_rows(self):
        self.can_not_be(b"[t.u]\n[[t.r]]\n[t]\nr.a = 1")
        self.can_not_be(b"[[t.r]]\n[t]\nr = 1")


if __name__ == "__main__":
    unittest.main()
