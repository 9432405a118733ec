from tests.lines import BIGGEST, LineTest, begin, bring, enough, latest, level, look, passing, short, stock, table, there


def ten_wanted(minutes=4, first=2):
    return [begin(minutes), table(2, 0), passing(0, first, 1, 5)]


class Latest(LineTest):
    def test_the_latest_minute(self):
        before = [begin(8), table(2, 25), passing(0, 1, 6, 5)]
        self.answered(before + [short(0), latest(0, 35)], [[3, 35], [3]])

    def test_a_delivery_in_the_very_minute_and_one_too_late(self):
        before = ten_wanted()
        self.last(before + [latest(0, 10)], [2])
        self.last(before + [bring(0, 2, 10), enough()], [0])
        self.last(before + [bring(0, 3, 10), enough()], [1, 0])

    def test_just_as_many_as_are_missing_and_one_fewer(self):
        before = ten_wanted() + [stock(0, 4)]
        self.last(before + [latest(0, 7)], [2])
        self.last(before + [latest(0, 6)], [2])
        self.refused(before, latest(0, 5), -33)

    def test_more_than_are_missing_may_not_come_later(self):
        self.last(ten_wanted() + [latest(0, 100000)], [2])

    def test_too_few_again_later(self):
        before = [begin(9), table(1, 5), passing(0, 2, 1, 6), bring(0, 3, 10), passing(0, 6, 2, 8)]
        self.last(before + [short(0)], [2, 7])
        self.last(before + [latest(0, 7)], [2])
        self.refused(before, latest(0, 6), -33)

    def test_any_minute_does_where_there_are_enough(self):
        self.last([begin(4), table(2, 0), latest(0, 1)], [3])
        self.last([begin(400), table(2, 0), latest(0, 1)], [399])
        self.last([begin(1), table(2, 0), latest(0, 100000)], [0])
        self.last(ten_wanted() + [stock(0, 10), latest(0, 1)], [3])
        self.last(ten_wanted() + [stock(0, 11), latest(0, 1)], [3])
        self.last(ten_wanted() + [bring(0, 2, 10), latest(0, 1)], [3])

    def test_in_no_minute(self):
        self.refused(ten_wanted(), latest(0, 9), -33)
        self.refused(ten_wanted(first=0), latest(0, 9), -33)
        self.last([begin(400), table(9, 100000), passing(0, 0, 400, 1000), latest(0, 100000)], [-33])

    def test_the_first_and_the_last_minute_of_the_day(self):
        self.last(ten_wanted(400, 399) + [latest(0, 10)], [399])
        self.last(ten_wanted(400, 0) + [latest(0, 10)], [0])
        self.last(ten_wanted(1, 0) + [latest(0, 10)], [0])
        self.last(ten_wanted(1, 0) + [latest(0, 9)], [-33])

    def test_1_and_100000_cups(self):
        self.last(ten_wanted() + [stock(0, 9), latest(0, 1)], [2])
        before = [begin(100), table(2, 0), passing(0, 50, 50, 1000)]
        self.last(before + [latest(0, 100000)], [50])
        self.refused(before + [passing(0, 99, 1, 1)], latest(0, 100000), -33)

    def test_0_and_100001_cups_and_more_are_refused(self):
        for cups in (0, 100001, BIGGEST):
            self.refused(ten_wanted(), latest(0, cups), -22)
            self.refused([begin(4), table(2, 3)], latest(0, cups), -22)

    def test_22_is_told_ahead_of_33(self):
        much = [begin(100), table(9, 0), passing(0, 0, 100, 1000)]
        self.last(much + [latest(0, 100000)], [-33])
        for cups in (0, 100001, BIGGEST):
            self.last(much + [latest(0, cups)], [-22])

    def test_6_deliveries_are_no_hindrance(self):
        before = [begin(4), table(1, 0), passing(0, 3, 1, 10)] + [bring(0, 1, 1)] * 6
        self.last(before + [latest(0, 4)], [3])
        self.refused(before, latest(0, 3), -33)

    def test_a_delivery_that_is_told_already_may_come_behind_it(self):
        before = [begin(6), table(1, 0), passing(0, 1, 5, 2), bring(0, 3, 6)]
        self.last(before + [latest(0, 4)], [1])

    def test_nothing_is_brought_by_asking(self):
        before = ten_wanted() + [latest(0, 10), latest(0, 10)]
        self.answered(before + [look(0), there(0, 3), short(0)], [[0, 2, 1], [0, -10], [2, 10]])

    def test_only_this_table_is_looked_at(self):
        before = ten_wanted() + [table(1, 100)]
        self.answered(before + [latest(0, 9), latest(1, 9)], [[-33], [3]])

    def test_a_stock_above_100000(self):
        before = [begin(60), table(5, 100000), table(1, 100000), passing(0, 0, 40, 1000), level()]
        self.answered(before + [latest(0, 1), passing(0, 50, 1, 1), latest(0, 5), latest(0, 4)], [[59], [2], [50], [-33]])
