"""The program beside a plainer one, over lines that look drawn by lot."""

import unittest

from tests.lines import BIGGEST, apart, ask, begin, bring, enough, fewest, latest, least, level, look, passing, short
from tests.lines import steps, stock, sums, table, take, there, together, wants
from tests.plain import PlainDay


class Draws:
    """Numbers that look drawn by lot but are the same every time."""

    def __init__(self, seed):
        self.state = seed

    def below(self, bound):
        self.state = (self.state * 6364136223846793005 + 1442695040888963407) % 2 ** 64
        return (self.state >> 33) % bound

    def one_of(self, choices):
        return choices[self.below(len(choices))]


def has_room(calls, numbers):
    return len(calls) < 100 and sum(len(call) for call in calls) + numbers <= 500


def drawn_call(draws, minutes):
    k = draws.one_of([0, 0, 0, 1, 1, 2, 3, 4, 5])
    t = draws.below(minutes + 1)
    length = 1 + draws.below(minutes)
    many = draws.one_of([1, 2, 5, 40, 1000, 1001, 0])
    cups = draws.one_of([1, 3, 20, 500, 100000, 100001, 0, BIGGEST])
    calls = [
        table(draws.below(11), cups), table(1 + draws.below(9), 20), passing(k, t, length, many),
        passing(k, t // 2, 1 + length // 2, many), bring(k, t, cups), bring(k, t, 1 + draws.below(50)), take(k),
        stock(k, cups), stock(k, draws.below(400)), wants(k, t), there(k, t), least(k), short(k), enough(), apart(),
        together(), latest(k, cups), latest(k, 1 + draws.below(2000)), fewest(k, cups), fewest(k, draws.below(20000)),
        steps(), level(), look(k), sums(),
    ]
    if draws.below(60) == 0:
        return begin(draws.one_of([0, 1, minutes, 400, 401]))
    return draws.one_of(calls)


def drawn_line(draws):
    minutes = draws.one_of([1, 2, 3, 7, 30, 400])
    calls = [begin(minutes), table(1 + draws.below(9), 0)]
    while has_room(calls, 5):
        calls.append(drawn_call(draws, minutes))
    return calls


def drawn_passes(draws, minutes, k):
    calls = []
    for turn in range(draws.below(4)):
        first = draws.below(minutes)
        length = 1 + draws.below(min(20, minutes - first))
        calls.append(passing(k, first, length, 1 + draws.below(draws.one_of([4, 40, 400, 1000]))))
    return calls


def shares(draws, cups, count):
    """So many cups over so many tables, evenly or not, as far as 100,000 may stand at each."""
    evenly = draws.below(2) == 0
    drawn = []
    for behind in reversed(range(count)):
        share = cups // (behind + 1) if evenly or behind == 0 else draws.below(cups + 1)
        drawn.append(min(share, 100000))
        cups -= drawn[-1]
    return drawn


def drawn_row(draws):
    """A day with tables whose stock in all is what they need apart, or one more or fewer."""
    minutes = draws.one_of([1, 2, 3, 7, 30, 400])
    count = draws.below(6)
    calls = [begin(minutes)] + [table(1 + draws.below(9), 0) for k in range(count)]
    for k in range(count):
        calls += drawn_passes(draws, minutes, k)
        calls += [bring(k, draws.below(minutes), 1 + draws.below(300)) for turn in range(draws.below(4))]
    day = PlainDay()
    for call in calls:
        day.answer(call)
    cups = max(0, sum(day.leasts()) + draws.one_of([0, 0, 0, 0, 1, -1]))
    return calls + [stock(k, share) for k, share in enumerate(shares(draws, cups, count))]


def asked_of_a_row(draws):
    k = draws.one_of([0, 0, 0, 0, 1, 1, 2, 3, 4, 5])
    holds = draws.one_of([100000, draws.below(5000), draws.below(100001)])
    return [
        steps(), sums(), together(), latest(k, 1 + draws.below(3000)), fewest(k, holds), level(), steps(), level(),
        enough(), apart(), look(k), sums(), fewest(k, holds), latest(k, 1), stock(k, 5), steps(), enough(), together(),
    ]


class AgainstModel(unittest.TestCase):
    def answered_alike(self, calls):
        day = PlainDay()
        told = ask(calls)
        self.assertEqual(told, [day.answer(call) for call in calls], calls)
        return told

    def test_lines_are_answered_alike(self):
        draws = Draws(58)
        for turn in range(300):
            self.answered_alike(drawn_line(draws))

    def test_rows_that_can_be_level_or_nearly(self):
        draws = Draws(7)
        levelled = 0
        above = 0
        for turn in range(500):
            before = drawn_row(draws)
            told = self.answered_alike(before + asked_of_a_row(draws))[len(before):]
            levelled += told[0][0] > 0
            above += told[10][0] > 100000
        # What is drawn must hold enough of what this test is for.
        self.assertGreater(levelled, 150)
        self.assertGreater(above, 0)
