"""The program against a second reading of the document, written in another way, on many texts.

The second reading matches whole pieces by patterns and goes through values by calls within calls.
"""

import datetime
import random
import re
import unittest

from helper import PATH_CALLS, ask, double_told, st_read, st_told

BARE = rb"[A-Za-z0-9_-]+"
ESCAPED = rb'"(?:[^"\\]|\\(?:[btnfr"\\]|u[0-9A-Fa-f]{4}|U[0-9A-Fa-f]{8}))*"'
AS_IT_IS = rb"'[^']*'"
KEY = re.compile(rb"[ \t]*(" + BARE + rb"|" + ESCAPED + rb"|" + AS_IT_IS + rb")[ \t]*", re.S)
STRING = re.compile(ESCAPED + rb"|" + AS_IT_IS, re.S)
ESCAPE = re.compile(rb"\\(?:u(....)|U(........)|(.))", re.S)
WORD = re.compile(rb"[A-Za-z0-9_+.-]+")
BLANKS = re.compile(rb"[ \t]*")
TENS = rb"[0-9]+(?:_[0-9]+)*"
LEADING = rb"(?:0|[1-9][0-9]*(?:_[0-9]+)*)"
PLAIN = re.compile(rb"[+-]?" + LEADING)
BASED = re.compile(rb"0(?:x[0-9A-Fa-f]+(?:_[0-9A-Fa-f]+)*|o[0-7]+(?:_[0-7]+)*|b[01]+(?:_[01]+)*)")
REAL = re.compile(rb"[+-]?" + LEADING + rb"(?:\." + TENS + rb"(?:[eE][+-]?" + TENS + rb")?|[eE][+-]?" + TENS + rb")")
DAY = re.compile(rb"([0-9]{4})-([0-9]{2})-([0-9]{2})")
CONTROL = re.compile(rb"[\x00-\x08\x0a-\x1f\x7f]")


class Wrong(Exception):
    pass


class CanNot(Exception):
    pass


class Table(dict):
    def __init__(self, made):
        super().__init__()
        self.made = made


class Rows(list):
    pass


def unquoted(row):
    if row[:1] == b"'":
        return row[1:-1]

    def stands_for(found):
        if found[3]:
            return dict(zip(b'btnfr"\\', (b"\b", b"\t", b"\n", b"\f", b"\r", b'"', b"\\")))[found[3][0]]
        try:
            return chr(int(found[1] or found[2], 16)).encode()
        except (ValueError, OverflowError):
            raise Wrong from None
    return ESCAPE.sub(stands_for, row[1:-1])


def keys_at(row, at):
    keys = []
    while True:
        found = KEY.match(row, at)
        if not found:
            raise Wrong
        at = found.end()
        keys.append(unquoted(found[1]) if found[1][:1] in b"'\"" else found[1])
        if row[at:at + 1] != b".":
            break
        at += 1
    if len(keys) > 32:
        raise Wrong
    return keys, at


def sign_at(row, at, wanted):
    if row[at:at + len(wanted)] != wanted:
        raise Wrong
    return at + len(wanted)


def blanks_at(row, at):
    return BLANKS.match(row, at).end()


def setting_at(row, at, deep):
    keys, at = keys_at(row, at)
    at = blanks_at(row, sign_at(row, at, b"="))
    value, at = value_at(row, at, deep)
    return keys, value, blanks_at(row, at)


def value_at(row, at, deep):
    sign = row[at:at + 1]
    if sign and sign in b"[{" and deep == 32:
        raise Wrong
    if sign == b"[":
        return list_at(row, blanks_at(row, at + 1), deep + 1)
    if sign == b"{":
        return braces_at(row, blanks_at(row, at + 1), deep + 1)
    found = STRING.match(row, at)
    if found:
        return ("text", unquoted(found[0])), found.end()
    found = WORD.match(row, at)
    if not found:
        raise Wrong
    return word(found[0]), found.end()


def list_at(row, at, deep):
    values = []
    while row[at:at + 1] != b"]":
        value, at = value_at(row, at, deep)
        values.append(value)
        at = blanks_at(row, at)
        if row[at:at + 1] == b"]":
            break
        at = blanks_at(row, sign_at(row, at, b","))
    return values, at + 1


def braces_at(row, at, deep):
    table = Table("braces")
    if row[at:at + 1] == b"}":
        return table, at + 1
    while True:
        keys, value, at = setting_at(row, at, deep)
        try:
            put(table, keys, value)
        except CanNot:
            raise Wrong from None
        if row[at:at + 1] == b"}":
            return table, at + 1
        at = sign_at(row, at, b",")


def day_of(row):
    found = DAY.fullmatch(row)
    if not found:
        return None
    year, month, day = [int(part) for part in found.groups()]
    try:
        # The calendar comes again every 400 years, and Python's has no year 0.
        return (datetime.date(year % 400 + 400, month, day) - datetime.date(1970, 1, 1)).days + (year // 400 - 1) * 146097
    except ValueError:
        raise Wrong from None


def word(row):
    if row in (b"true", b"false"):
        return ("told", row, 3)
    day = day_of(row)
    if day is not None:
        return ("told", b"@%d" % day, 4)
    if PLAIN.fullmatch(row) or BASED.fullmatch(row):
        number = int(row, 10 if PLAIN.fullmatch(row) else 0)
        if not -2 ** 63 <= number < 2 ** 63:
            raise Wrong
        return ("told", b"%d" % number, 1)
    if re.fullmatch(rb"[+-]?nan", row):
        return ("told", b"#fff8000000000000" if row[:1] == b"-" else b"#7ff8000000000000", 2)
    if REAL.fullmatch(row) or re.fullmatch(rb"[+-]?inf", row):
        return ("told", double_told(float(row)), 2)
    raise Wrong


def put(table, keys, value):
    for key in keys[:-1]:
        table = table.setdefault(key, Table("keys"))
        if not isinstance(table, Table) or table.made != "keys":
            raise CanNot
    if keys[-1] in table:
        raise CanNot
    table[keys[-1]] = value


def lead(table, keys):
    for key in keys[:-1]:
        table = table.setdefault(key, Table("way"))
        if isinstance(table, Rows):
            table = table[-1]
        if not isinstance(table, Table) or table.made == "braces":
            raise CanNot
    return table


def whole_of(text):
    """The table that text says, or st_read's refusal."""
    whole = now = Table("line")
    lines = text.split(b"\n")
    if lines[-1] == b"":
        lines.pop()
    for number, row in enumerate(lines, 1):
        try:
            now = after_line(whole, now, row[:-1] if row.endswith(b"\r") else row)
        except Wrong:
            return [-1, number]
        except CanNot:
            return [-2, number]
    return whole


def after_line(whole, now, row):
    try:
        row.decode()
    except UnicodeDecodeError:
        raise Wrong from None
    if CONTROL.search(row):
        raise Wrong
    row = row.strip(b" \t")
    if row[:1] in (b"", b"#"):
        return now
    value = None
    if row[:1] == b"[":
        brackets = 2 if row[:2] == b"[[" else 1
        keys, at = keys_at(row, brackets)
        at = blanks_at(row, sign_at(row, at, b"]" * brackets))
    else:
        brackets = 0
        keys, value, at = setting_at(row, 0, 0)
    if row[at:at + 1] not in (b"", b"#"):
        raise Wrong
    if brackets == 0:
        put(now, keys, value)
        return now
    table = lead(whole, keys)
    if brackets == 2:
        rows = table.setdefault(keys[-1], Rows())
        if not isinstance(rows, Rows):
            raise CanNot
        rows.append(Table("line"))
        return rows[-1]
    found = table.setdefault(keys[-1], Table("way"))
    if not isinstance(found, Table) or found.made != "way":
        raise CanNot
    found.made = "line"
    return found


def told_text(row):
    def plain(found):
        sign = found[0][0]
        return b"\\" + found[0] if found[0] in b'"\\' else b"\\u00%02x" % sign
    return b'"' + re.sub(rb'["\\\x00-\x1f\x7f]', plain, row) + b'"'


def told(value):
    if isinstance(value, Table):
        return b"{" + b",".join([told_text(key) + b":" + told(held) for key, held in value.items()]) + b"}"
    if isinstance(value, list):
        return b"[" + b",".join([told(held) for held in value]) + b"]"
    return told_text(value[1]) if value[0] == "text" else value[1]


def kind(value):
    if isinstance(value, Table):
        return 6
    if isinstance(value, list):
        return 5
    return 0 if value[0] == "text" else value[2]


def count(value):
    if isinstance(value, list | Table):
        return len(value)
    return len(value[1]) if value[0] == "text" else 1


def whole_and_real(value):
    """What st_whole and st_real answer where value stands."""
    return [
        [0, int(value[1])] if kind(value) == 1 else [-7],
        [0, int(value[1][1:], 16)] if kind(value) == 2 else [-7]]


def found_at(value, path):
    """What stands at path, or a refusal."""
    if path.strip(b" \t") == b"":
        return value
    try:
        keys, at = keys_at(path, 0)
    except Wrong:
        return -5
    if at != len(path):
        return -5
    for key in keys:
        if isinstance(value, Table) and key in value:
            value = value[key]
        elif isinstance(value, list) and key in [b"%d" % number for number in range(len(value))]:
            value = value[int(key)]
        else:
            return -4
    return value


def all_ways(value):
    """The keys that lead to each value, none (the value itself) among them."""
    ways = [[]]
    held = []
    if isinstance(value, Table):
        held = [(told_text(key), value[key]) for key in value]
    elif isinstance(value, list):
        held = [(b"%d" % number, one) for number, one in enumerate(value)]
    for key, one in held:
        ways.extend([[key, *way] for way in all_ways(one)])
    return [way for way in ways if len(way) <= 32]


def first_answers(text, most, paths):
    calls = []
    for path in paths:
        calls.extend([st_told(path, most), *[call(path) for call in PATH_CALLS]])
    return ask(st_read(text), *calls)


def second_answers(text, most, paths):
    whole = whole_of(text)
    given = [whole if isinstance(whole, list) else [0]]
    if isinstance(whole, list):
        whole = Table("line")
    for path in paths:
        found = found_at(whole, path)
        if isinstance(found, int):
            given.extend([[found]] * 5)
        else:
            row = told(found)
            given.extend([[len(row), *row] if len(row) <= most else [-6], [kind(found)], [count(found)]])
            given.extend(whole_and_real(found))
    return given


class Maker:
    """Texts and paths that are mostly right and often near to wrong."""

    def __init__(self, seed):
        self.source = random.Random(seed)

    def one(self, *choices):
        return self.source.choice(choices)

    def blank(self):
        return self.one(b"", b"", b"", b" ", b"\t", b"  ")

    def key(self):
        if self.source.random() < 0.8:
            return self.one(b"a", b"b", b"c", b"0", b"1")
        return self.one(b"'a'", b'"b"', b'"\\u0061"', b"''", b'"\\n"', b"a-_9", b"'\xc3\xa9'", b"'.'", b'"\\U0001F600"',
                        b'"\\ud800"', b"01", b"'\xff'", b"+", b'"\\x"', b"'\n'", b"2", b"")

    def keys(self):
        count = self.one(1, 1, 1, 2, 2, 3)
        if self.source.random() < 0.004:
            count = self.one(31, 32, 33, 34)
        return (self.blank() + b"." + self.blank()).join([self.key() for place in range(count)])

    def digits(self):
        row = b"".join([self.one(b"0", b"1", b"9", b"5", b"12", b"_", b"345") for place in range(self.source.randrange(1, 6))])
        return row if self.source.random() < 0.3 else row.strip(b"_0").replace(b"__", b"_") or b"0"

    def word(self):
        sign = self.one(b"", b"", b"+", b"-")
        return self.one(
            b"true", b"false", sign + b"inf", sign + b"nan", sign + self.digits(), sign + self.digits(),
            sign + self.digits() + b"." + self.digits(), sign + self.digits() + self.one(b"e", b"E") + self.digits(),
            sign + self.digits() + b"." + self.digits() + b"e" + self.one(b"", b"+", b"-") + self.digits(),
            self.one(b"0x", b"0o", b"0b") + self.one(b"1", b"0", b"017", b"1_1", b"fF", b"7" * 16, b"_1", b"f" * 16, b""),
            b"%04d-%02d-%02d" % (self.source.randrange(10000), self.source.randrange(14), self.source.randrange(33)),
            sign + b"922337203685477580%d" % self.source.randrange(10), b"x", b"1.", b".5")

    def value(self, deep):
        chance = self.source.random()
        if deep > 3 or chance < 0.4:
            return self.word()
        if chance < 0.55:
            return self.one(b"'x'", b'"y\\t"', b"''", b'"\\u00e9"', b'"\\"\\\\"', b"'\\'", b'"', b"'\x01'", b'"\\U0010ffff"')
        if chance < 0.6:
            count = self.one(1, 2, 30, 31, 32, 33) if deep == 0 else 1
            return b"[" * count + self.blank() + b"]" * count
        parts = []
        for place in range(self.one(0, 1, 2, 3)):
            head = b"" if chance < 0.8 else self.keys() + self.blank() + b"=" + self.blank()
            parts.append(head + self.value(deep + 1))
        middle = (self.blank() + b"," + self.blank()).join(parts)
        if self.source.random() < 0.1:
            middle += b","
        return self.one(b"[", b"[ ") + middle + b"]" if chance < 0.8 else b"{" + self.blank() + middle + self.one(b"}", b" }")

    def line(self):
        chance = self.source.random()
        if chance < 0.08:
            row = self.one(b"", b"# x", b"#\xff", b"\xc3\xa9", b"#\xed\xa0\x80", b"#\xf4\x8f\xbf\xbf")
        elif chance < 0.3:
            row = b"[" + self.blank() + self.keys() + self.blank() + b"]"
        elif chance < 0.5:
            row = b"[[" + self.blank() + self.keys() + self.blank() + b"]]"
        else:
            row = self.keys() + self.blank() + b"=" + self.blank() + self.value(0)
        return self.blank() + row + self.blank() + self.one(b"", b"", b"", b"# x", b"#")

    def text(self):
        ends = self.one(b"\n", b"\n", b"\r\n")
        text = ends.join([self.line() for place in range(self.source.randrange(1, 9))]) + self.one(b"", ends)
        if self.source.random() < 0.1:
            at = self.source.randrange(len(text) + 1)
            text = text[:at] + self.one(b"", b" ", b"=", b"]", b"[", b"{", b"}", b",", b".", b"'", b'"', b"\\", b"#",
                                        b"\r", b"\x00", b"\x80", b"\n") + text[at + self.one(0, 1):]
        return text

    def path(self):
        return self.blank() + self.one(b"", self.keys(), self.keys(), self.keys() + self.one(b".", b" x", b"#"))


class SecondReading(unittest.TestCase):
    def test_both_answer_the_same(self):
        seen = {0: 0, -1: 0, -2: 0, -4: 0, -5: 0, -6: 0, -7: 0}
        for seed in range(6000):
            maker = Maker(seed)
            text = maker.text()
            most = maker.one(1048576, 1048576, 5, 20)
            paths = [b"", *[maker.path() for place in range(4)]]
            given = first_answers(text, most, paths)
            self.assertEqual(given, second_answers(text, most, paths), (seed, text, paths))
            for answer in given:
                seen[min(answer[0], 0)] += 1
        for answer, count in seen.items():
            self.assertGreater(count, 300, answer)

    def test_long_texts_that_can_be(self):
        # How many whole and how many real numbers were found.
        self.found = [0, 0]
        for seed in range(60):
            maker = Maker(seed)
            text = b""
            for turn in range(40):
                longer = text + maker.line() + b"\n"
                given = ask(st_read(longer), st_told())
                self.assertEqual(given, second_answers(longer, 1048576, [b""])[:2], (seed, longer))
                if given[0] == [0]:
                    text = longer
            self.check_all_paths(text)
        self.assertGreater(min(self.found), 100)

    def check_all_paths(self, text):
        """Asks for every value of text by a path of its own."""
        paths = [b".".join(keys) for keys in all_ways(whole_of(text))]
        expected = second_answers(text, 1048576, paths)
        self.assertEqual(first_answers(text, 1048576, paths), expected, text)
        # All five calls at each path: st_whole's and st_real's are the last two.
        for start in range(1, len(expected), 5):
            self.assertGreaterEqual(expected[start + 2][0], 0)
            self.found[0] += len(expected[start + 3]) - 1
            self.found[1] += len(expected[start + 4]) - 1


if __name__ == "__main__":
    unittest.main()
