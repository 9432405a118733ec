"""Lines of calls, written by name, and what is answered to them."""

import unittest

from cupsalong.cups import answers

BIGGEST = 4294967295


def begin(minutes):
    return (0, minutes)


def table(takes, stock):
    return (1, takes, stock)


def passing(k, first, length, many):
    return (2, k, first, length, many)


def bring(k, t, n):
    return (3, k, t, n)


def take(k):
    return (4, k)


def stock(k, n):
    return (5, k, n)


def wants(k, t):
    return (6, k, t)


def there(k, t):
    return (7, k, t)


def least(k):
    return (8, k)


def short(k):
    return (9, k)


def enough():
    return (10,)


def apart():
    return (11,)


def together():
    return (12,)


def latest(k, n):
    return (13, k, n)


def fewest(k, holds):
    return (14, k, holds)


def steps():
    return (15,)


def level():
    return (16,)


def look(k):
    return (17, k)


def sums():
    return (18,)


def line_of(calls):
    line = [number for call in calls for number in call]
    if not 1 <= len(calls) <= 100 or len(line) > 500:
        raise ValueError("such a line is never handed in")
    return line


def split(flat):
    parts = []
    at = 0
    while at < len(flat):
        behind = at + 1 + flat[at]
        parts.append(flat[at + 1:behind])
        at = behind
    if at != len(flat):
        raise ValueError("an answer's count goes past the end")
    return parts


def ask(calls):
    """One list for each call: the numbers that are answered to it."""
    return split(answers(line_of(calls)))


def probes():
    """Calls that show what the tables hold, then what the lists of the first two still take."""
    calls = [sums(), enough(), apart(), together(), steps()] + [look(k) for k in range(6)]
    for k in (0, 1):
        calls += [wants(k, t) for t in range(4)] + [there(k, t) for t in range(4)]
        calls += [least(k), short(k), stock(k, 7), passing(k, 0, 1, 1), bring(k, 0, 1), take(k), take(k)]
    return calls + [table(1, 0), table(2, 3)]


class LineTest(unittest.TestCase):
    def answered(self, calls, expected):
        self.assertEqual(ask(calls)[-len(expected):], expected)

    def last(self, calls, expected):
        self.answered(calls, [expected])

    def refused(self, before, call, number):
        """The call is answered by this number alone, and all that comes behind it as if it weren't there."""
        with_it = ask(before + [call] + probes())
        self.assertEqual(with_it[len(before)], [number])
        without_it = ask(before + probes())
        self.assertEqual(with_it[:len(before)] + with_it[len(before) + 1:], without_it)
