"""A table along the way: what is wanted there, what is brought, what is lacking."""


class Table:
    def __init__(self, takes, stock):
        self.takes = takes
        self.stock = stock
        self.passes = []
        self.deliveries = []

    def wanted_in(self, minute):
        runners = [many for first, length, many in self.passes if first <= minute < first + length]
        return self.takes * sum(runners)

    def wanted_up_to(self, minute):
        runners = 0
        for first, length, many in self.passes:
            runners += many * max(0, min(minute + 1 - first, length))
        return self.takes * runners

    def brought_up_to(self, minute):
        return sum([cups for when, cups in self.deliveries if when <= minute])

    def there_behind(self, minute):
        return self.stock + self.brought_up_to(minute) - self.wanted_up_to(minute)

    def lacking_behind(self, minute):
        return max(0, self.wanted_up_to(minute) - self.brought_up_to(minute))

    def least_needed(self, minutes):
        return max([self.lacking_behind(minute) for minute in range(minutes)])

    def first_too_few(self, minutes):
        return min([minute for minute in range(minutes) if self.there_behind(minute) < 0])

    def most_wanted(self, minutes):
        return max([self.wanted_in(minute) for minute in range(minutes)])

    def filled_up(self, holds, minutes):
        """The minutes at whose beginning the table must be filled up to what it holds."""
        filled = []
        cups = self.stock
        for minute in range(minutes):
            wanted = self.wanted_in(minute)
            if cups < wanted:
                filled.append(minute)
                cups = holds
            cups -= wanted
        return filled
