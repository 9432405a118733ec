"""A plainer program for the same calls: it hands out the cups minute by minute and tries out what it is asked for."""


class PlainTable:
    def __init__(self, takes, cups):
        self.takes = takes
        self.cups = cups
        self.passes = []
        self.deliveries = []

    def wanted(self, minutes):
        cups = [0] * minutes
        for first, length, many in self.passes:
            for minute in range(first, first + length):
                cups[minute] += many * self.takes
        return cups

    def brought(self, minutes):
        cups = [0] * minutes
        for when, many in self.deliveries:
            cups[when] += many
        return cups


def added(rows, minutes):
    return [sum(row[minute] for row in rows) for minute in range(minutes)]


def left(wanted, brought, cups):
    behind = []
    for less, more in zip(wanted, brought):
        cups += more - less
        behind.append(cups)
    return behind


def nobody_goes_without(wanted, brought, cups):
    return min(left(wanted, brought, cups)) >= 0


def fewest_cups(wanted, brought):
    too_few, enough = -1, sum(wanted)
    while enough - too_few > 1:
        half = (too_few + enough) // 2
        if nobody_goes_without(wanted, brought, half):
            enough = half
        else:
            too_few = half
    return enough


def carry(stand, need):
    """Heap by heap, from the first table on: (from, to, how many), till each table has what it needs."""
    stand, need = list(stand), list(need)
    carried = []
    while any(stand):
        source = next(k for k, cups in enumerate(stand) if cups)
        goal = next(k for k, cups in enumerate(need) if cups)
        cups = min(stand[source], need[goal])
        stand[source] -= cups
        need[goal] -= cups
        carried.append((source, goal, cups))
    return carried


def over_gap(carried, gap):
    there = sum(cups for source, goal, cups in carried if source <= gap < goal)
    back = sum(cups for source, goal, cups in carried if goal <= gap < source)
    return there - back


class PlainDay:
    def __init__(self):
        self.minutes = None
        self.tables = []

    def answer(self, call):
        number, numbers = call[0], call[1:]
        if number == 0:
            return self.begin(*numbers)
        if self.minutes is None:
            return [-61]
        of_the_day = {
            1: self.table, 10: self.enough, 11: self.apart, 12: self.together, 15: self.steps, 16: self.level,
            18: self.sums,
        }
        if number in of_the_day:
            return of_the_day[number](*numbers)
        return self.answer_at_table(number, numbers[0], numbers[1:])

    def answer_at_table(self, number, k, numbers):
        if k not in range(len(self.tables)):
            return [-2]
        if number in (3, 6, 7) and numbers[0] not in range(self.minutes):
            return [-22]
        return {
            2: self.passing, 3: self.bring, 4: self.take, 5: self.stock, 6: self.wants, 7: self.there, 8: self.least,
            9: self.short, 13: self.latest, 14: self.fewest, 17: self.look,
        }[number](self.tables[k], *numbers)

    def wanted(self, at):
        return at.wanted(self.minutes)

    def brought(self, at):
        return at.brought(self.minutes)

    def leasts(self):
        return [fewest_cups(self.wanted(at), self.brought(at)) for at in self.tables]

    def stand(self):
        return [at.cups for at in self.tables]

    def begin(self, minutes):
        if minutes not in range(1, 401):
            return [-22]
        self.minutes, self.tables = minutes, []
        return [0]

    def table(self, takes, cups):
        if takes not in range(1, 10) or cups not in range(100001):
            return [-22]
        if len(self.tables) > 4:
            return [-28]
        self.tables.append(PlainTable(takes, cups))
        return [len(self.tables) - 1]

    def passing(self, at, first, length, many):
        if length == 0 or many not in range(1, 1001):
            return [-22]
        if first not in range(self.minutes) or first + length - 1 not in range(self.minutes):
            return [-22]
        if len(at.passes) > 5:
            return [-28]
        at.passes.append((first, length, many))
        return [len(at.passes)]

    def bring(self, at, minute, cups):
        if cups not in range(1, 100001):
            return [-22]
        if len(at.deliveries) > 5:
            return [-28]
        at.deliveries.append((minute, cups))
        return [len(at.deliveries)]

    def take(self, at):
        return [at.deliveries.pop()[1]] if at.deliveries else [-6]

    def stock(self, at, cups):
        if cups not in range(100001):
            return [-22]
        before, at.cups = at.cups, cups
        return [before]

    def wants(self, at, minute):
        wanted = self.wanted(at)
        return [wanted[minute], sum(wanted[:minute + 1])]

    def there(self, at, minute):
        return [0, left(self.wanted(at), self.brought(at), at.cups)[minute]]

    def least(self, at):
        return [fewest_cups(self.wanted(at), self.brought(at))]

    def short(self, at):
        behind = left(self.wanted(at), self.brought(at), at.cups)
        if min(behind) >= 0:
            return [-6]
        return [[cups < 0 for cups in behind].index(True), self.least(at)[0] - at.cups]

    def enough(self):
        lacking = [
            k for k, at in enumerate(self.tables)
            if not nobody_goes_without(self.wanted(at), self.brought(at), at.cups)
        ]
        return [len(lacking), *lacking]

    def apart(self):
        return [sum(self.leasts()), *self.leasts()]

    def together(self):
        wanted = added([self.wanted(at) for at in self.tables], self.minutes)
        brought = added([self.brought(at) for at in self.tables], self.minutes)
        return [fewest_cups(wanted, brought), sum(self.stand())]

    def latest(self, at, cups):
        if cups not in range(1, 100001):
            return [-22]
        for minute in reversed(range(self.minutes)):
            brought = self.brought(at)
            brought[minute] += cups
            if nobody_goes_without(self.wanted(at), brought, at.cups):
                return [minute]
        return [-33]

    def fewest(self, at, holds):
        if holds not in range(at.cups, 100001):
            return [-22]
        if any(cups > holds for cups in self.wanted(at)):
            return [-33]
        filled = []
        cups = [at.cups]
        for minute, less in enumerate(self.wanted(at)):
            if cups[-1] - less < 0:
                filled.append(minute)
                cups.append(holds)
            cups.append(cups[-1] - less)
        return [len(filled), *filled]

    def steps(self):
        if sum(self.stand()) != sum(self.leasts()):
            return [-33]
        carried = carry(self.stand(), self.leasts())
        taken = sum(abs(goal - source) * cups for source, goal, cups in carried)
        return [taken] + [over_gap(carried, gap) for gap in range(len(self.tables) - 1)]

    def level(self):
        answer = self.steps()[:1]
        if answer != [-33]:
            for at, needed in zip(self.tables, self.leasts()):
                at.cups = needed
        return answer

    def look(self, at):
        return [at.cups, at.takes, len(at.passes)] + [number for told in at.deliveries for number in told]

    def sums(self):
        brought = sum(sum(self.brought(at)) for at in self.tables)
        wanted = sum(sum(self.wanted(at)) for at in self.tables)
        return [self.minutes, len(self.tables), sum(self.stand()), brought, wanted]
