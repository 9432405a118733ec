"""The program beside a plainer one, which hands out the cups minute by minute."""

import itertools
import unittest

from tests.lines import BIGGEST, ask, begin, bring, least, passing, short, stock, table, take, there, wants


class PlainTable:
    def __init__(self, takes, cups):
        self.takes = takes
        self.cups = cups
        self.passes = []
        self.deliveries = []

    def wanted(self, minutes):
        cups = [0] * minutes
        for first, length, many in self.passes:
            for minute in range(first, first + length):
                cups[minute] += many * self.takes
        return cups

    def left(self, minutes, cups):
        wanted = self.wanted(minutes)
        behind = []
        for minute in range(minutes):
            for when, brought in self.deliveries:
                if when == minute:
                    cups += brought
            cups -= wanted[minute]
            behind.append(cups)
        return behind

    def nobody_goes_without(self, minutes, cups):
        return min(self.left(minutes, cups)) >= 0

    def least(self, minutes):
        too_few, enough = -1, sum(self.wanted(minutes))
        while enough - too_few > 1:
            half = (too_few + enough) // 2
            if self.nobody_goes_without(minutes, half):
                enough = half
            else:
                too_few = half
        return enough


class PlainDay:
    def __init__(self):
        self.minutes = None
        self.tables = []

    def answer(self, call):
        number, numbers = call[0], call[1:]
        if number == 0:
            return self.begin(*numbers)
        if self.minutes is None:
            return [-61]
        if number == 1:
            return self.table(*numbers)
        if numbers[0] not in range(len(self.tables)):
            return [-2]
        at = self.tables[numbers[0]]
        rest = numbers[1:]
        if number in (3, 6, 7) and rest[0] not in range(self.minutes):
            return [-22]
        return [self.passing, self.bring, self.take, self.stock, self.wants, self.there, self.least, self.short][
            number - 2
        ](at, *rest)

    def begin(self, minutes):
        if minutes not in range(1, 401):
            return [-22]
        self.minutes, self.tables = minutes, []
        return [0]

    def table(self, takes, cups):
        if takes not in range(1, 10) or cups not in range(100001):
            return [-22]
        if len(self.tables) > 4:
            return [-28]
        self.tables.append(PlainTable(takes, cups))
        return [len(self.tables) - 1]

    def passing(self, at, first, length, many):
        if length == 0 or many not in range(1, 1001):
            return [-22]
        if first not in range(self.minutes) or first + length - 1 not in range(self.minutes):
            return [-22]
        if len(at.passes) > 5:
            return [-28]
        at.passes.append((first, length, many))
        return [len(at.passes)]

    def bring(self, at, minute, cups):
        if cups not in range(1, 100001):
            return [-22]
        if len(at.deliveries) > 5:
            return [-28]
        at.deliveries.append((minute, cups))
        return [len(at.deliveries)]

    def take(self, at):
        return [at.deliveries.pop()[1]] if at.deliveries else [-6]

    def stock(self, at, cups):
        if cups not in range(100001):
            return [-22]
        before, at.cups = at.cups, cups
        return [before]

    def wants(self, at, minute):
        wanted = at.wanted(self.minutes)
        return [wanted[minute], sum(wanted[:minute + 1])]

    def there(self, at, minute):
        return [0, at.left(self.minutes, at.cups)[minute]]

    def least(self, at):
        return [at.least(self.minutes)]

    def short(self, at):
        if at.nobody_goes_without(self.minutes, at.cups):
            return [-6]
        first = [left < 0 for left in at.left(self.minutes, at.cups)].index(True)
        return [first, at.least(self.minutes) - at.cups]


class Draws:
    """Numbers that look drawn by lot but are the same every time."""

    def __init__(self, seed):
        self.state = seed

    def below(self, bound):
        self.state = (self.state * 6364136223846793005 + 1442695040888963407) % 2 ** 64
        return (self.state >> 33) % bound

    def one_of(self, choices):
        return choices[self.below(len(choices))]


def drawn_call(draws, minutes):
    k = draws.one_of([0, 0, 0, 1, 1, 2, 3, 4, 5])
    t = draws.below(minutes + 1)
    length = 1 + draws.below(minutes)
    many = draws.one_of([1, 2, 5, 40, 1000, 1001, 0])
    cups = draws.one_of([1, 3, 20, 500, 100000, 100001, 0, BIGGEST])
    calls = [
        table(draws.below(11), cups), table(1 + draws.below(9), 20), passing(k, t, length, many),
        passing(k, t // 2, 1 + length // 2, many), bring(k, t, cups), bring(k, t, 1 + draws.below(50)), take(k),
        stock(k, cups), stock(k, draws.below(400)), wants(k, t), there(k, t), least(k), least(k), short(k), short(k),
    ]
    if draws.below(60) == 0:
        return begin(draws.one_of([0, 1, minutes, 400, 401]))
    return draws.one_of(calls)


def drawn_line(draws):
    minutes = draws.one_of([1, 2, 3, 7, 30, 400])
    calls = [begin(minutes), table(1 + draws.below(9), 0)]
    while len(calls) < 100 and sum(len(call) for call in calls) < 490:
        calls.append(drawn_call(draws, minutes))
    return calls


class AgainstModel(unittest.TestCase):
    def test_lines_are_answered_alike(self):
        draws = Draws(58)
        for turn in range(400):
            calls = drawn_line(draws)
            day = PlainDay()
            self.assertEqual(ask(calls), [day.answer(call) for call in calls], calls)


class WhatHolds(unittest.TestCase):
    def every_small_table(self):
        minutes = 3
        spans = [(first, length) for first in range(minutes) for length in range(1, minutes - first + 1)]
        for one, other in itertools.combinations_with_replacement(spans, 2):
            for brought in itertools.product(range(minutes), (1, 4), range(minutes), (2, 3)):
                yield minutes, [(*one, 1), (*other, 2)], [brought[:2], brought[2:]]

    def test_so_many_must_stand_there_and_no_fewer(self):
        for minutes, passes, deliveries in self.every_small_table():
            before = [begin(minutes), table(2, 0)]
            before += [passing(0, *told) for told in passes] + [bring(0, *told) for told in deliveries]
            needed = ask(before + [least(0)])[-1][0]
            self.assertEqual(ask(before + [stock(0, needed), short(0)])[-1], [-6])
            plain = PlainTable(2, 0)
            plain.passes, plain.deliveries = passes, deliveries
            self.assertTrue(plain.nobody_goes_without(minutes, needed))
            if needed > 0:
                self.assertFalse(plain.nobody_goes_without(minutes, needed - 1))
                self.assertEqual(ask(before + [stock(0, needed - 1), short(0)])[-1][1:], [1])
