"""What holds over all small days, beside a plain search."""

import itertools
import unittest

from tests.lines import apart, ask, begin, bring, enough, fewest, latest, least, level, look, passing, short, steps
from tests.lines import stock, table, together
from tests.plain import PlainTable, nobody_goes_without

MINUTES = 3
SPANS = [(first, length) for first in range(MINUTES) for length in range(1, MINUTES - first + 1)]


def every_small_table():
    """Two passes, which may overlap, and two deliveries: (passes, deliveries)."""
    for one, other in itertools.combinations_with_replacement(SPANS, 2):
        for brought in itertools.product(range(MINUTES), (1, 4), range(MINUTES), (2, 3)):
            yield [(*one, 1), (*other, 2)], [brought[:2], brought[2:]]


def told(k, passes, deliveries):
    return [passing(k, *numbers) for numbers in passes] + [bring(k, *numbers) for numbers in deliveries]


def plain_table(takes, passes, deliveries):
    plain = PlainTable(takes, 0)
    plain.passes, plain.deliveries = passes, deliveries
    return plain


class SoManyAndNoFewer(unittest.TestCase):
    def test_so_many_must_stand_there_and_no_fewer(self):
        for passes, deliveries in every_small_table():
            before = [begin(MINUTES), table(2, 0)] + told(0, passes, deliveries)
            needed = ask(before + [least(0)])[-1][0]
            self.assertEqual(ask(before + [stock(0, needed), short(0), enough()])[-2:], [[-6], [0]])
            plain = plain_table(2, passes, deliveries)
            wanted, brought = plain.wanted(MINUTES), plain.brought(MINUTES)
            self.assertTrue(nobody_goes_without(wanted, brought, needed))
            if needed > 0:
                self.assertFalse(nobody_goes_without(wanted, brought, needed - 1))
                fewer = ask(before + [stock(0, needed - 1), short(0), enough()])[-2:]
                self.assertEqual([fewer[0][1:], fewer[1]], [[1], [1, 0]])


def splits(cups):
    return [(one, cups - one) for one in range(cups + 1)]


def can_be_carried(stand, wanted, brought):
    """Whether two tables can be served, trying out in every minute every way to carry what is there."""
    ways = [stand]
    for minute in range(MINUTES):
        found = set()
        for way in ways:
            for one, other in splits(sum(way) + brought[0][minute] + brought[1][minute]):
                if one >= wanted[0][minute] and other >= wanted[1][minute]:
                    found.add((one - wanted[0][minute], other - wanted[1][minute]))
        ways = sorted(found)
    return len(ways) > 0


class CarriedFewerAreEnough(unittest.TestCase):
    def every_small_row(self):
        for one, other in itertools.product(SPANS, SPANS):
            for when, cups, late in itertools.product(range(MINUTES), (1, 3, 8), range(MINUTES)):
                yield ([(*one, 2)], [(when, cups)]), ([(*other, 1)], [(late, 2)])

    def test_together_never_more_than_apart_and_no_fewer_do(self):
        fewer = as_many = 0
        for first, second in self.every_small_row():
            calls = [begin(MINUTES), table(1, 0), table(2, 0)] + told(0, *first) + told(1, *second)
            answered = ask(calls + [apart(), together()])
            alone, needed = answered[-2][0], answered[-1][0]
            self.assertLessEqual(needed, alone)
            plain = [plain_table(1, *first), plain_table(2, *second)]
            wanted = [at.wanted(MINUTES) for at in plain]
            brought = [at.brought(MINUTES) for at in plain]
            for stand in splits(needed):
                self.assertTrue(can_be_carried(stand, wanted, brought), calls)
            for stand in splits(needed - 1):
                self.assertFalse(can_be_carried(stand, wanted, brought), calls)
            fewer += needed < alone
            as_many += needed == alone
        self.assertGreater(fewer, 100)
        self.assertGreater(as_many, 100)


class SoLateAndNoLater(unittest.TestCase):
    def test_in_the_minute_told_and_any_earlier_one_and_no_later(self):
        for passes, deliveries in every_small_table():
            before = [begin(MINUTES), table(2, 0)] + told(0, passes, deliveries)
            for stand, cups in itertools.product((0, 2, 5), (1, 4, 9)):
                calls = before + [stock(0, stand)]
                does = [ask(calls + [bring(0, t, cups), enough()])[-1] == [0] for t in range(MINUTES)]
                answered = ask(calls + [latest(0, cups)])[-1]
                if answered == [-33]:
                    self.assertEqual(does, [False] * MINUTES, calls)
                else:
                    self.assertEqual(does, [t <= answered[0] for t in range(MINUTES)], calls)


def fewest_by_search(cups, holds, wanted):
    """Trying out in every minute every number that may be brought; for what's left, how few deliveries led there."""
    ways = {cups: 0}
    for less in wanted:
        found = {}
        for there, brought in ways.items():
            for filled in range(there, holds + 1):
                if filled >= less:
                    count = brought + (filled > there)
                    found[filled - less] = min(count, found.get(filled - less, count))
        ways = found
    return min(ways.values()) if ways else None


class NoFewerDeliveriesDo(unittest.TestCase):
    def every_want(self):
        for wanted in itertools.product(range(4), repeat=4):
            yield list(wanted)

    def enough_at_first_and_in_between(self, stand, holds, wanted, minutes):
        there = stand
        for minute, less in enumerate(wanted):
            there = holds if minute in minutes else there
            there -= less
            self.assertGreaterEqual(there, 0)

    def test_no_fewer_deliveries_do(self):
        for wanted in self.every_want():
            passes = [passing(0, minute, 1, many) for minute, many in enumerate(wanted) if many]
            for holds in range(7):
                for stand in range(min(holds, 4) + 1):
                    answered = ask([begin(4), table(1, stand)] + passes + [fewest(0, holds)])[-1]
                    found = fewest_by_search(stand, holds, wanted)
                    self.assertEqual(answered[0], -33 if found is None else found, (wanted, holds, stand))
                    if found is not None:
                        self.assertEqual(answered[1:], sorted(set(answered[1:])))
                        self.assertEqual(len(answered) - 1, answered[0])
                        self.enough_at_first_and_in_between(stand, holds, wanted, answered[1:])


def moves(stand):
    for k in range(len(stand)):
        for goal in (k - 1, k + 1):
            if stand[k] > 0 and 0 <= goal < len(stand):
                carried = list(stand)
                carried[k] -= 1
                carried[goal] += 1
                yield tuple(carried)


def steps_from(stand):
    """For each way in which the same cups can stand: with how few steps of one cup each it's reached."""
    reached = {stand: 0}
    reached_last = [stand]
    while reached_last:
        found = []
        for way in reached_last:
            for carried in moves(way):
                if carried not in reached:
                    reached[carried] = reached[way] + 1
                    found.append(carried)
        reached_last = found
    return reached


def ways_to_stand(cups, tables):
    return [way for way in itertools.product(range(cups + 1), repeat=tables) if sum(way) == cups]


class NoWayToCarryTakesFewerSteps(unittest.TestCase):
    def before(self, stand, need):
        calls = [begin(2)] + [table(1, cups) for cups in stand]
        return calls + [passing(k, 1, 1, cups) for k, cups in enumerate(need) if cups]

    def test_no_way_to_carry_takes_fewer_steps(self):
        for tables, cups in ((1, 3), (2, 5), (3, 4), (4, 3), (5, 2)):
            for stand in ways_to_stand(cups, tables):
                searched = steps_from(stand)
                for need in ways_to_stand(cups, tables):
                    asked = [steps(), level()] + [look(k) for k in range(tables)]
                    answered = ask(self.before(stand, need) + asked)[-len(asked):]
                    gaps = [sum(stand[:gap]) - sum(need[:gap]) for gap in range(1, tables)]
                    self.assertEqual(answered[0], [searched[need]] + gaps)
                    self.assertEqual(answered[1], [searched[need]])
                    self.assertEqual([seen[0] for seen in answered[2:]], list(need))

    def test_33_where_they_are_not_as_many(self):
        for stand in ways_to_stand(3, 3):
            for need in ways_to_stand(2, 3) + ways_to_stand(4, 3):
                answered = ask(self.before(stand, need) + [steps(), level()] + [look(k) for k in range(3)])[-5:]
                self.assertEqual(answered[:2], [[-33], [-33]])
                self.assertEqual([seen[0] for seen in answered[2:]], list(stand))
