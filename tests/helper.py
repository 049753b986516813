"""Calls written shortly, and answers taken apart, for all tests."""

import struct

from plainsettings.store import answers


def st_read(text):
    return [0, len(text), *text]


def st_told(path=b"", most=1048576):
    return [1, most, len(path), *path]


def st_kind(path=b""):
    return [2, len(path), *path]


def st_count(path=b""):
    return [3, len(path), *path]


def st_whole(path=b""):
    return [4, len(path), *path]


def st_real(path=b""):
    return [5, len(path), *path]


# The calls that take a path and no other number.
PATH_CALLS = (st_kind, st_count, st_whole, st_real)


def ask(*calls):
    """The answers to the calls on one new set of settings, each a list of its own."""
    given = answers([number for call in calls for number in call])
    parts = []
    at = 0
    while at < len(given):
        parts.append(given[at + 1:at + 1 + given[at]])
        assert len(parts[-1]) == given[at]
        at += 1 + given[at]
    assert len(parts) == len(calls)
    return parts


def read(text):
    """What st_read answers to text."""
    return ask(st_read(text))[0]


def told(text, path=b""):
    """What stands at path, told, once text was read; a refusal's number where it is refused."""
    done, given = ask(st_read(text), st_told(path))
    assert done == [0], (text, done)
    if given[0] < 0:
        assert len(given) == 1
        return given[0]
    assert given[0] == len(given) - 1
    return bytes(given[1:])


def answer(call, text, path=b""):
    """What call, one of PATH_CALLS, answers at path once text was read."""
    done, given = ask(st_read(text), call(path))
    assert done == [0], (text, done)
    return given


def kind(text, path=b""):
    """What st_kind answers at path once text was read."""
    given = answer(st_kind, text, path)
    assert len(given) == 1
    return given[0]


def count(text, path=b""):
    """What st_count answers at path once text was read."""
    given = answer(st_count, text, path)
    assert len(given) == 1
    return given[0]


def value(written):
    """The value that is written so, told; -1 where its line is none."""
    given = read(b"v = " + written)
    if given != [0]:
        assert given == [-1, 1], (written, given)
        return -1
    return told(b"v = " + written, b"v")


def double_bits(number):
    """The 64 bits of a float of Python's, as one number."""
    return struct.unpack(">Q", struct.pack(">d", number))[0]


def double_told(number):
    """How a float of Python's is told as a real number."""
    return b"#%016x" % double_bits(number)
