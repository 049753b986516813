"""The calls on one set of settings, and their answers."""

from plainsettings.kinds import BY_LINE, REAL, WHOLE, count_of, empty_table
from plainsettings.line_reader import split_lines
from plainsettings.paths import value_at
from plainsettings.reading import Reading
from plainsettings.refusals import CannotBe, Malformed, NoPath, NothingThere, OtherKind, TooLarge, TooLong
from plainsettings.telling import told_once

ST_READ = 0
ST_TOLD = 1
ST_KIND = 2
ST_COUNT = 3
ST_WHOLE = 4
ST_REAL = 5

MOST_BYTES = 65536
MOST_TOLD = 1048576


class Store:
    """The settings that the last st_read left."""

    def __init__(self):
        self.settings = empty_table(BY_LINE)

    def st_read(self, text):
        check_at_most(len(text), MOST_BYTES)
        self.settings = empty_table(BY_LINE)
        reading = Reading()
        for number, row in enumerate(split_lines(text), start=1):
            try:
                reading.take_line(row)
            except Malformed:
                return [-1, number]
            except CannotBe:
                return [-2, number]
        self.settings = reading.whole
        return [0]

    def st_told(self, most, path):
        check_at_most(most, MOST_TOLD)
        told = told_once(self.value_of(path))
        if len(told) > most:
            raise TooLong()
        return [len(told)] + told

    def st_kind(self, path):
        return [self.value_of(path).kind]

    def st_count(self, path):
        return [count_of(self.value_of(path))]

    def st_whole(self, path):
        return [0, self.number_of_kind(path, WHOLE)]

    def st_real(self, path):
        return [0, self.number_of_kind(path, REAL)]

    def number_of_kind(self, path, kind):
        """The number, or the bits, at path, which must be of the kind."""
        value = self.value_of(path)
        if value.kind != kind:
            raise OtherKind()
        return value.content

    def value_of(self, path):
        check_at_most(len(path), MOST_BYTES)
        return value_at(self.settings, path)


def check_at_most(number, most):
    if number > most:
        raise TooLarge()


def answers(calls):
    """The answers to the calls, each behind how many numbers it has."""
    store = Store()
    given = []
    at = 0
    while at < len(calls):
        call = calls[at]
        most = 0
        if call == ST_TOLD:
            at += 1
            most = calls[at]
        start = at + 2
        at = start + calls[at + 1]
        answer = answer_or_refusal(store, call, most, calls[start:at])
        given.append(len(answer))
        given.extend(answer)
    return given


def answer_or_refusal(store, call, most, row):
    try:
        return answer_of(store, call, most, row)
    except TooLarge:
        return [-3]
    except NothingThere:
        return [-4]
    except NoPath:
        return [-5]
    except TooLong:
        return [-6]
    except OtherKind:
        return [-7]


def answer_of(store, call, most, row):
    """What the store answers to one call; row is its text or its path."""
    if call == ST_READ:
        return store.st_read(row)
    if call == ST_TOLD:
        return store.st_told(most, row)
    if call == ST_KIND:
        return store.st_kind(row)
    if call == ST_COUNT:
        return store.st_count(row)
    if call == ST_WHOLE:
        return store.st_whole(row)
    if call == ST_REAL:
        return store.st_real(row)
    raise NotImplementedError("no such call")
