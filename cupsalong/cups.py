"""The calls on one day and its tables, and what they answer."""

from cupsalong.days import Day
from cupsalong.limits import CANNOT_BE, FULL, NO_TABLE, NONE_THERE, NOT_AS_TOLD, NOT_BEGUN
from cupsalong.limits import MOST_CUPS, MOST_DELIVERIES, MOST_MINUTES, MOST_PASSES
from cupsalong.limits import MOST_RUNNERS, MOST_TABLES, MOST_TAKEN
from cupsalong.tables import Table


def begin(day, numbers):
    minutes = numbers[0]
    if not 1 <= minutes <= MOST_MINUTES:
        return [NOT_AS_TOLD]
    day.minutes = minutes
    day.tables = []
    return [0]


def add_table(day, numbers):
    takes = numbers[0]
    stock = numbers[1]
    if not 1 <= takes <= MOST_TAKEN or stock > MOST_CUPS:
        return [NOT_AS_TOLD]
    if len(day.tables) == MOST_TABLES:
        return [FULL]
    day.tables.append(Table(takes, stock))
    return [len(day.tables) - 1]


def add_pass(day, table, numbers):
    first = numbers[0]
    length = numbers[1]
    many = numbers[2]
    if length < 1 or not 1 <= many <= MOST_RUNNERS or first + length > day.minutes:
        return [NOT_AS_TOLD]
    if len(table.passes) == MOST_PASSES:
        return [FULL]
    table.passes.append((first, length, many))
    return [len(table.passes)]


def bring(day, table, numbers):
    minute = numbers[0]
    cups = numbers[1]
    if minute >= day.minutes or not 1 <= cups <= MOST_CUPS:
        return [NOT_AS_TOLD]
    if len(table.deliveries) == MOST_DELIVERIES:
        return [FULL]
    table.deliveries.append((minute, cups))
    return [len(table.deliveries)]


def take(day, table, numbers):
    if len(table.deliveries) == 0:
        return [NONE_THERE]
    delivery = table.deliveries.pop()
    return [delivery[1]]


def set_stock(day, table, numbers):
    stock = numbers[0]
    if stock > MOST_CUPS:
        return [NOT_AS_TOLD]
    before = table.stock
    table.stock = stock
    return [before]


def wants(day, table, numbers):
    minute = numbers[0]
    if minute >= day.minutes:
        return [NOT_AS_TOLD]
    return [table.wanted_in(minute), table.wanted_up_to(minute)]


def there(day, table, numbers):
    minute = numbers[0]
    if minute >= day.minutes:
        return [NOT_AS_TOLD]
    return [0, table.there_behind(minute)]


def least(day, table, numbers):
    return [table.least_needed(day.minutes)]


def short(day, table, numbers):
    missing = table.least_needed(day.minutes) - table.stock
    if missing <= 0:
        return [NONE_THERE]
    return [table.first_too_few(day.minutes), missing]


def enough(day, numbers):
    lacking = day.tables_too_short()
    return [len(lacking)] + lacking


def apart(day, numbers):
    leasts = day.leasts()
    return [sum(leasts)] + leasts


def together(day, numbers):
    return [day.least_together(), day.all_stock()]


def latest(day, table, numbers):
    cups = numbers[0]
    if not 1 <= cups <= MOST_CUPS:
        return [NOT_AS_TOLD]
    missing = table.least_needed(day.minutes) - table.stock
    if missing > cups:
        return [CANNOT_BE]
    if missing <= 0:
        return [day.minutes - 1]
    return [table.first_too_few(day.minutes)]


def fewest(day, table, numbers):
    holds = numbers[0]
    if holds > MOST_CUPS or holds < table.stock:
        return [NOT_AS_TOLD]
    if holds < table.most_wanted(day.minutes):
        return [CANNOT_BE]
    filled = table.filled_up(holds, day.minutes)
    return [len(filled)] + filled


def steps_over(gaps):
    return sum([abs(more) for more in gaps])


def steps(day, numbers):
    if not day.can_be_level():
        return [CANNOT_BE]
    gaps = day.over_gaps()
    return [steps_over(gaps)] + gaps


def level(day, numbers):
    if not day.can_be_level():
        return [CANNOT_BE]
    taken = steps_over(day.over_gaps())
    day.make_level()
    return [taken]


def look(day, table, numbers):
    seen = [table.stock, table.takes, len(table.passes)]
    for minute, cups in table.deliveries:
        seen.append(minute)
        seen.append(cups)
    return seen


def sums(day, numbers):
    last = day.minutes - 1
    return [
        day.minutes,
        len(day.tables),
        day.all_stock(),
        day.all_brought_up_to(last),
        day.all_wanted_up_to(last),
    ]


# How many numbers stand behind each call's own, from begin, 0, to sums, 18.
WIDTHS = (1, 2, 4, 3, 1, 2, 2, 2, 1, 1, 0, 0, 0, 2, 2, 0, 0, 1, 0)

BEGIN = 0
DAY_CALLS = {
    1: add_table,
    10: enough,
    11: apart,
    12: together,
    15: steps,
    16: level,
    18: sums,
}
TABLE_CALLS = {
    2: add_pass,
    3: bring,
    4: take,
    5: set_stock,
    6: wants,
    7: there,
    8: least,
    9: short,
    13: latest,
    14: fewest,
    17: look,
}


def answer_at_table(day, number, numbers):
    k = numbers[0]
    if k >= len(day.tables):
        return [NO_TABLE]
    return TABLE_CALLS[number](day, day.tables[k], numbers[1:])


def answer(day, number, numbers):
    if number == BEGIN:
        return begin(day, numbers)
    if day.minutes == 0:
        return [NOT_BEGUN]
    if number in DAY_CALLS:
        return DAY_CALLS[number](day, numbers)
    return answer_at_table(day, number, numbers)


def answers(calls):
    day = Day()
    given = []
    at = 0
    while at < len(calls):
        number = calls[at]
        behind = at + 1 + WIDTHS[number]
        told = answer(day, number, calls[at + 1:behind])
        given.append(len(told))
        given.extend(told)
        at = behind
    return given
