"""What the tests share: calls as they are written in a list, and answers call by call."""

from twostrands.desk import answers

TOP = 4294967295


def start(n):
    return [0, n]


def known(i, k):
    return [1, i, k]


def read(*marks):
    row = [number for mark in marks for number in mark]
    return [2, len(row)] + row


def drop(r):
    return [3, r]


def best():
    return [4]


def nth(i):
    return [5, i]


def sides():
    return [6]


def tie(i, j):
    return [7, i, j]


def placed(i):
    return [8, i]


def blocks():
    return [9]


def thrown():
    return [10]


def cost(a, b):
    return [11, len(a)] + list(a) + [len(b)] + list(b)


def shows():
    return [12]


def joined(calls):
    return [number for call in calls for number in call]


def split(given):
    """The answers of each call, by the counts ahead of them."""
    parts = []
    at = 0
    while at < len(given):
        length = given[at]
        part = given[at + 1:at + 1 + length]
        if length < 1 or len(part) != length:
            raise AssertionError(f"no {length!r} numbers behind place {at!r} of {given!r}")
        parts.append(part)
        at = at + 1 + length
    return parts


def ask(*calls):
    """What each of the calls answers."""
    parts = split(answers(joined(calls)))
    if len(parts) != len(calls):
        raise AssertionError(f"{len(parts)!r} answers to {len(calls)!r} calls")
    return parts


def last(*calls):
    """What the last of the calls answers."""
    return ask(*calls)[-1]
