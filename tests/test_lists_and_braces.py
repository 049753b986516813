"""Point 1, "A text": lists and tables in braces."""

import unittest

from helper import read, told, value


class Lists(unittest.TestCase):
    def test_lists(self):
        self.assertEqual(value(b"[]"), b"[]")
        self.assertEqual(value(b"[ \t ]"), b"[]")
        self.assertEqual(value(b"[1]"), b"[1]")
        self.assertEqual(value(b"[1,2,3]"), b"[1,2,3]")
        self.assertEqual(value(b"[ 1 ,\t2 , 3 ]"), b"[1,2,3]")
        self.assertEqual(value(b"[1, 'a', true, 1.0, 1970-01-01, [], {}]"), b'[1,"a",true,#3ff0000000000000,@0,[],{}]')
        self.assertEqual(value(b"[[1,2],[3]]"), b"[[1,2],[3]]")
        self.assertEqual(value(b"[[[]],[]]"), b"[[[]],[]]")
        self.assertEqual(value(b"[1,1,1]"), b"[1,1,1]")

    def test_a_comma_at_the_end(self):
        self.assertEqual(value(b"[1,]"), b"[1]")
        self.assertEqual(value(b"[1, 2 , ]"), b"[1,2]")
        self.assertEqual(value(b"[[1,],[],]"), b"[[1],[]]")
        self.assertEqual(value(b"[{},]"), b"[{}]")

    def test_wrong_lists(self):
        for written in (b"[", b"]", b"[1", b"[1,", b"[1,,]", b"[,]", b"[,1]", b"[1,,2]", b"[1 2]", b"[1;2]", b"[1]]",
                        b"[[1]", b"[1}", b"{1]", b"[a]", b"[a=1]", b"[1,2", b"[']", b"[1, x]", b"['a' 'b']", b"[[] []]",
                        b"[1:2]", b"[,,]", b"[ , ]"):
            self.assertEqual(value(written), -1, written)

    def test_quotes_hold_brackets_and_commas(self):
        self.assertEqual(value(b"['],', \"[,\"]"), b'["],","[,"]')


class Braces(unittest.TestCase):
    def test_tables(self):
        self.assertEqual(value(b"{}"), b"{}")
        self.assertEqual(value(b"{ \t}"), b"{}")
        self.assertEqual(value(b"{a=1}"), b'{"a":1}')
        self.assertEqual(value(b"{ b = 1 ,\ta = 2 }"), b'{"b":1,"a":2}')
        self.assertEqual(value(b"{a={b={}},c=[{d=1},{d=2}]}"), b'{"a":{"b":{}},"c":[{"d":1},{"d":2}]}')

    def test_dotted_keys(self):
        self.assertEqual(value(b"{a.b=1, a.c=2, a.d.e=3, f=4}"), b'{"a":{"b":1,"c":2,"d":{"e":3}},"f":4}')
        self.assertEqual(value(b"{a.b=1, c=2, a.d=3}"), b'{"a":{"b":1,"d":3},"c":2}')
        self.assertEqual(value(b"{a.b.c=1, a.d=2, a.b.e=3}"), b'{"a":{"b":{"c":1,"e":3},"d":2}}')

    def test_the_same_key_in_other_tables(self):
        self.assertEqual(value(b"{a={a=1},b={a={a=1}}}"), b'{"a":{"a":1},"b":{"a":{"a":1}}}')
        self.assertEqual(value(b"[{a=1},{a=1}]"), b'[{"a":1},{"a":1}]')

    def test_wrong_braces(self):
        for written in (b"{", b"}", b"{a", b"{a=", b"{a=1", b"{a=1,", b"{a=1,}", b"{a=1, }", b"{,}", b"{,a=1}", b"{a=1,,b=2}",
                        b"{a=1 b=2}", b"{a}", b"{a:1}", b"{1}", b"{=1}", b"{a=1]", b"{a=1}}", b"{{}}", b"{a=[}", b"{a={}",
                        b"{a=1 # x}", b"{[a]}", b"{a=}", b"{a.=1}", b"{[]=1}", b"{a=1;b=2}", b"{ , }"):
            self.assertEqual(value(written), -1, written)

    def test_keys_that_can_not_be_make_the_line_none(self):
        for written in (b"{a=1,a=2}", b"{a=1,'a'=2}", b"{a=1,a.b=2}", b"{a={},a.b=1}", b"{a.b=1,a=2}", b"{a.b=1,a.b=2}",
                        b"{a.b=1,a.b.c=2}", b"{a.b.c=1,a.b=2}", b"{a=[],a.b=1}", b"{a=[{}],a.b=1}", b"{a={b=1},a={c=2}}",
                        b"[{a=1,a=2}]", b"{x={a=1,a=2}}", b"[[{x.y=[{a=1,b=2,a=3}]}]]", b"{a.b={},a.b.c=1}"):
            self.assertEqual(value(written), -1, written)
            self.assertEqual(read(b"[t]\nx = 1\n\ny." + b"z = " + written), [-1, 4], written)


class Depth(unittest.TestCase):
    def nested(self, signs):
        """Lists and braces within one another, as the signs say, outermost first."""
        left = b"".join([b"[" if sign == "l" else b"{k=" for sign in signs[:-1]])
        last = b"[]" if signs[-1] == "l" else b"{}"
        right = b"".join([b"]" if sign == "l" else b"}" for sign in reversed(signs[:-1])])
        return left + last + right

    def test_32_deep(self):
        for signs in ("l" * 32, "b" * 32, "lb" * 16, "bl" * 16, "l" * 16 + "b" * 16):
            written = self.nested(signs)
            self.assertEqual(value(written), written.replace(b"k=", b'"k":'), signs)

    def test_33_deep(self):
        for signs in ("l" * 33, "b" * 33, "lb" * 16 + "l", "bl" * 16 + "b", "l" * 16 + "b" * 17, "l" * 500, "b" * 500):
            self.assertEqual(value(self.nested(signs)), -1, signs)

    def test_values_at_the_depth(self):
        self.assertEqual(value(b"[" * 32 + b"1" + b"]" * 32), b"[" * 32 + b"1" + b"]" * 32)
        self.assertEqual(value(b"[" * 33 + b"1" + b"]" * 33), -1)
        self.assertEqual(value(b"[" * 10000), -1)

    def test_depth_is_not_how_many_there_are(self):
        row = b"[" + b",".join([b"[{}]"] * 50) + b"]"
        self.assertEqual(value(row), row)

    def test_dotted_keys_are_not_counted(self):
        keys = b".".join([b"k"] * 32)
        written = (b"{" + keys + b"=") * 32 + b"1" + b"}" * 32
        self.assertEqual(told(b"v = " + written, b"v"), b'{"k":' * 1024 + b"1" + b"}" * 1024)


if __name__ == "__main__":
    unittest.main()
