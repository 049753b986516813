"""The interface: the form of calls and answers, and what is promised around them."""

import itertools
import unittest

from helper import ask, double_bits, st_count, st_kind, st_read, st_real, st_told, st_whole, told
from plainsettings.store import answers

TEXT = b"a = [1, 'x', {b = 1.5}]\n[t]\nd = 2000-01-01\n[[r]]\ne.f = true\n"


class Watched(list):
    """A list that no call may change."""

    def refuse(self, *given, **named):
        raise AssertionError("the list that was handed in is changed")

    append = extend = insert = pop = remove = clear = sort = reverse = refuse
    __setitem__ = __delitem__ = __iadd__ = __imul__ = refuse


class Form(unittest.TestCase):
    def test_st_read(self):
        self.assertEqual(answers([0, 0]), [1, 0])
        self.assertEqual(answers([0, 5, *b"a = 1"]), [1, 0])
        self.assertEqual(answers([0, 1, *b"!"]), [2, -1, 1])
        self.assertEqual(answers([0, 8, *b"a=1\na=1\n"]), [2, -2, 2])

    def test_st_told(self):
        self.assertEqual(answers([0, 3, *b"a=1", 1, 100, 0]), [1, 0, 8, 7, *b'{"a":1}'])
        self.assertEqual(answers([0, 3, *b"a=1", 1, 1, 1, *b"a"]), [1, 0, 2, 1, *b"1"])
        self.assertEqual(answers([0, 3, *b"a=1", 1, 0, 1, *b"a"]), [1, 0, 1, -6])

    def test_st_kind(self):
        self.assertEqual(answers([0, 3, *b"a=1", 2, 0, 2, 1, *b"a", 2, 1, *b"b"]), [1, 0, 1, 6, 1, 1, 1, -4])

    def test_st_count(self):
        self.assertEqual(answers([0, 0, 3, 0]), [1, 0, 1, 0])
        self.assertEqual(answers([0, 6, *b"a='xy'", 3, 0, 3, 1, *b"a", 3, 1, *b"b", 3, 1, *b"."]),
                         [1, 0, 1, 1, 1, 2, 1, -4, 1, -5])

    def test_st_whole(self):
        self.assertEqual(answers([0, 4, *b"a=-1", 4, 0, 4, 1, *b"a", 4, 1, *b"b", 4, 1, *b"."]),
                         [1, 0, 1, -7, 2, 0, -1, 1, -4, 1, -5])

    def test_st_real(self):
        self.assertEqual(answers([0, 6, *b"a=-nan", 5, 0, 5, 1, *b"a", 5, 1, *b"b", 5, 1, *b"."]),
                         [1, 0, 1, -7, 2, 0, 18444492273895866368, 1, -4, 1, -5])

    def test_all_six_in_any_order(self):
        asked = {1: st_told(b"a"), 2: st_kind(b"a"), 3: st_count(b"a"), 4: st_whole(b"a"), 5: st_real(b"a")}
        before = {1: [1, *b"7"], 2: [1], 3: [1], 4: [0, 7], 5: [-7]}
        behind = {1: [17, *b"#3fe0000000000000"], 2: [2], 3: [1], 4: [-7], 5: [0, double_bits(0.5)]}
        for order in itertools.permutations(range(6)):
            place = order.index(0)
            calls = [asked.get(number, st_read(b"a = 0.5")) for number in order]
            expected = [before[number] for number in order[:place]] + [[0]] + [behind[number] for number in order[place + 1:]]
            self.assertEqual(ask(st_read(b"a = 7"), *calls), [[0], *expected], order)

    def test_calls_one_behind_another(self):
        self.assertEqual(answers([0, 1, *b"!", 1, 2, 0, 0, 3, *b"a=1", 2, 1, *b"a", 1, 9, 1, *b"."]),
                         [2, -1, 1, 3, 2, *b"{}", 1, 0, 1, 1, 1, -5])

    def test_whole_numbers_alone_are_given_back(self):
        calls = (st_read(TEXT), st_told(), st_kind(b"r.0.e.f"), st_count(), st_count(b"r.0.e.f"), st_whole(b"a.0"),
                 st_real(b"a.2.b"), st_whole(b"r.0.e.f"), st_real(b"r.0.e.f"))
        given = answers([number for call in calls for number in call])
        self.assertIs(type(given), list)
        for number in given:
            self.assertIs(type(number), int)


class Kept(unittest.TestCase):
    def calls(self):
        calls = (st_read(TEXT), st_told(), st_kind(b"a"), st_count(b"a"), st_whole(b"a.0"), st_real(b"a.2.b"), st_read(b"!"),
                 st_told(b"x."), st_count(), st_whole(), st_real(b"a"), st_read(TEXT), st_told(b"r", 3), st_whole(b"a.1"),
                 st_real(b"a.0"), st_count(b"a.1"))
        return [number for call in calls for number in call]

    def test_what_is_handed_in_is_not_changed(self):
        calls = Watched(self.calls())
        answers(calls)
        self.assertEqual(list(calls), self.calls())

    def test_the_same_twice(self):
        calls = self.calls()
        first = answers(calls)
        self.assertEqual(answers(calls), first)
        answers([0, 8, *b"a=1\na=1\n"])
        self.assertEqual(answers(calls), first)

    def test_changing_an_answer_changes_no_other(self):
        calls = self.calls()
        first = answers(calls)
        kept = list(first)
        first.clear()
        self.assertEqual(answers(calls), kept)


class Size(unittest.TestCase):
    def test_nested_deeper_than_calls_may_be(self):
        keys = b".".join([b"k"] * 32)
        text = b"[" + keys + b"]\n" + keys + b" = " + (b"{" + keys + b"=") * 32 + b"1" + b"}" * 32
        self.assertEqual(told(text), b'{"k":' * 1088 + b"1" + b"}" * 1088)
        rows = b"\n".join([b"[[" + b".".join([b"r"] * count) + b"]]" for count in range(1, 33)])
        self.assertEqual(told(rows), b'{"r":[' * 32 + b"{}" + b"]}" * 32)

    def test_as_long_as_may_be(self):
        for text, expected in (
                (b"a = '" + b"x" * 29000 + b"'", b'{"a":"' + b"x" * 29000 + b'"}'),
                (b"a = [" + b"1," * 14000 + b"]", b'{"a":[' + b"1," * 13999 + b"1]}"),
                (b"a = [" + b"{}," * 9000 + b"]", b'{"a":[' + b"{}," * 8999 + b"{}]}"),
                (b"[[a]]\n" * 4900, b'{"a":[' + b"{}," * 4899 + b"{}]}"),
                (b"\n" * 29000 + b"a=1", b'{"a":1}'),
                (b"'" + b"k" * 29000 + b"'=1", b'{"' + b"k" * 29000 + b'":1}'),
                (b"a = 0." + b"0" * 29000 + b"1e29001", b'{"a":#3ff0000000000000}'),
                (b"a = 1e-" + b"9" * 29000, b'{"a":#0000000000000000}'),
                (b"a = " + b"_".join([b"0x0"] + [b"0"] * 14000), b'{"a":0}')):
            self.assertEqual(told(text), expected)

    def test_long_and_wrong(self):
        for text in (b"a = " + b"9" * 29000, b"a = " + b"[" * 29000, b"a = " + b"{a=" * 9000, b"." * 29000, b"a" * 29000,
                     b"a." * 14000 + b"a = 1", b"'" * 29001, b"a = '" + b"x" * 29000, b"[" * 29000, b"a = " + b"1." * 14000):
            self.assertEqual(ask(st_read(text)), [[-1, 1]])

    def test_many_calls(self):
        text = b"a = [" + b'"\\n",' * 5000 + b"]"
        expected = b'{"a":[' + b'"\\u000a",' * 4999 + b'"\\u000a"]}'
        given = ask(st_read(text), *[st_told()] * 50, *[st_told(b"", len(expected) - 1)] * 200, *[st_kind(b"a.4999")] * 49)
        self.assertEqual(given[1:51], [[len(expected), *expected]] * 50)
        self.assertEqual(given[51:251], [[-6]] * 200)
        self.assertEqual(given[251:], [[0]] * 49)


if __name__ == "__main__":
    unittest.main()
