"""Calls written shortly, and answers taken apart, for all tests."""

import struct

from plainsettings.store import answers


def st_read(text):
    return [0, len(text), *text]


def st_told(path=b"", most=1048576):
    return [1, most, len(path), *path]


def st_kind(path=b""):
    return [2, len(path), *path]


def ask(*calls):
    """The answers to the calls on one new set of settings, each a list of its own."""
    given = answers([number for call in calls for number in call])
    parts = []
    at = 0
    while at < len(given):
        parts.append(given[at + 1:at + 1 + given[at]])
        assert len(parts[-1]) == given[at]
        at += 1 + given[at]
    assert len(parts) == len(calls)
    return parts


def read(text):
    """What st_read answers to text."""
    return ask(st_read(text))[0]


def told(text, path=b""):
    """What stands at path, told, once text was read; a refusal's number where it is refused."""
    done, given = ask(st_read(text), st_told(path))
    assert done == [0], (text, done)
    if given[0] < 0:
        assert len(given) == 1
        return given[0]
    assert given[0] == len(given) - 1
    return bytes(given[1:])


def kind(text, path=b""):
    """What st_kind answers at path once text was read."""
    done, given = ask(st_read(text), st_kind(path))
    assert done == [0], (text, done)
    assert len(given) == 1
    return given[0]


def value(written):
    """The value that is written so, told; -1 where its line is none."""
    given = read(b"v = " + written)
    if given != [0]:
        assert given == [-1, 1], (written, given)
        return -1
    return told(b"v = " + written, b"v")


def double_told(number):
    """How a float of Python's is told as a real number."""
    return b"#%016x" % struct.unpack(">Q", struct.pack(">d", number))[0]
