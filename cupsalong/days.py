"""A day and its row of tables: what they need apart and together, and how cups are carried between them."""


class Day:
    def __init__(self):
        # No day that has begun has 0 minutes, so 0 stands for one that has not.
        self.minutes = 0
        self.tables = []

    def all_stock(self):
        return sum([table.stock for table in self.tables])

    def all_wanted_up_to(self, minute):
        return sum([table.wanted_up_to(minute) for table in self.tables])

    def all_brought_up_to(self, minute):
        return sum([table.brought_up_to(minute) for table in self.tables])

    def leasts(self):
        return [table.least_needed(self.minutes) for table in self.tables]

    def all_lacking_behind(self, minute):
        return max(0, self.all_wanted_up_to(minute) - self.all_brought_up_to(minute))

    def least_together(self):
        return max([self.all_lacking_behind(minute) for minute in range(self.minutes)])

    def tables_too_short(self):
        return [k for k, needed in enumerate(self.leasts()) if needed > self.tables[k].stock]

    def can_be_level(self):
        return self.all_stock() == sum(self.leasts())

    def over_gaps(self):
        """For each gap, how many more stand at first at all tables up to it than they need."""
        more = 0
        gaps = []
        for table, needed in zip(self.tables, self.leasts()):
            more += table.stock - needed
            gaps.append(more)
        # Behind the last table there is no gap.
        return gaps[:-1]

    def make_level(self):
        for table, needed in zip(self.tables, self.leasts()):
            table.stock = needed
