from tests.lines import BIGGEST, LineTest, begin, bring, fewest, look, passing, stock, table, there


def four_a_minute(cups, minutes=5):
    return [begin(minutes), table(2, cups), passing(0, 0, minutes, 2)]


class Fewest(LineTest):
    def test_how_few_then_their_minutes(self):
        self.last(four_a_minute(5) + [fewest(0, 10)], [2, 1, 3])

    def test_as_many_as_are_wanted_are_enough(self):
        self.last(four_a_minute(4) + [fewest(0, 8)], [2, 1, 3])
        self.last(four_a_minute(3) + [fewest(0, 8)], [3, 0, 2, 4])

    def test_what_is_left_is_not_lost_where_it_is_filled_up(self):
        # It's filled up to what it holds, not by what it holds.
        self.last(four_a_minute(7, 8) + [fewest(0, 9)], [4, 1, 3, 5, 7])

    def test_none_where_there_are_enough(self):
        self.last(four_a_minute(20) + [fewest(0, 20)], [0])
        self.last(four_a_minute(19) + [fewest(0, 19)], [1, 4])

    def test_a_minute_that_wants_just_what_it_holds(self):
        self.last(four_a_minute(4) + [fewest(0, 4)], [4, 1, 2, 3, 4])
        self.last(four_a_minute(0) + [fewest(0, 4)], [5, 0, 1, 2, 3, 4])
        self.last(four_a_minute(0) + [passing(0, 2, 1, 3), fewest(0, 10)], [3, 0, 2, 3])

    def test_a_minute_that_wants_one_cup_more(self):
        self.refused(four_a_minute(0, 4), fewest(0, 3), -33)
        self.refused(four_a_minute(3, 4), fewest(0, 3), -33)
        self.refused(four_a_minute(0, 4) + [passing(0, 2, 1, 3)], fewest(0, 9), -33)

    def test_more_wanted_than_it_holds_though_all_stand_there_at_first(self):
        before = [begin(4), table(1, 5), passing(0, 3, 1, 6)]
        self.refused(before, fewest(0, 5), -33)
        self.last(before + [fewest(0, 6)], [1, 3])

    def test_holds_100000_and_more(self):
        before = [begin(4), table(1, 0), passing(0, 1, 1, 1)]
        self.last(before + [fewest(0, 100000)], [1, 1])
        for holds in (100001, BIGGEST):
            self.refused(before, fewest(0, holds), -22)

    def test_holds_just_what_stands_there_at_first_and_one_less(self):
        before = [begin(4), table(1, 7)]
        self.last(before + [fewest(0, 7)], [0])
        self.refused(before, fewest(0, 6), -22)
        self.refused(before, fewest(0, 0), -22)
        full = [begin(4), table(1, 100000)]
        self.last(full + [fewest(0, 100000)], [0])
        self.last(full + [fewest(0, 99999)], [-22])

    def test_22_is_told_ahead_of_33(self):
        before = [begin(4), table(1, 7), passing(0, 0, 1, 10)]
        self.refused(before, fewest(0, 7), -33)
        self.refused(before, fewest(0, 6), -22)
        self.last(before + [passing(0, 0, 1, 1000), fewest(0, 100001)], [-22])

    def test_holds_nothing(self):
        self.last([begin(4), table(1, 0), fewest(0, 0)], [0])
        self.refused([begin(4), table(1, 0), passing(0, 3, 1, 1)], fewest(0, 0), -33)

    def test_what_is_told_of_deliveries_is_not_looked_at(self):
        before = four_a_minute(5) + [bring(0, 0, 100000), bring(0, 1, 3)]
        self.last(before + [fewest(0, 10)], [2, 1, 3])

    def test_a_table_nobody_passes(self):
        self.last([begin(400), table(9, 0), fewest(0, 100000)], [0])

    def test_passes_that_overlap(self):
        before = [begin(6), table(1, 2), passing(0, 0, 4, 1), passing(0, 2, 4, 2)]
        self.last(before + [fewest(0, 5)], [3, 2, 3, 5])

    def test_minutes_without_runners_between(self):
        before = [begin(9), table(1, 1), passing(0, 1, 1, 2), passing(0, 5, 1, 1), passing(0, 8, 1, 2)]
        self.last(before + [fewest(0, 4)], [2, 1, 8])

    def test_the_last_minute_of_the_day(self):
        self.last([begin(400), table(1, 0), passing(0, 399, 1, 1), fewest(0, 1)], [1, 399])
        self.last([begin(1), table(1, 0), passing(0, 0, 1, 1), fewest(0, 1)], [1, 0])

    def test_one_in_each_of_400_minutes(self):
        before = [begin(400), table(9, 0)] + [passing(0, 0, 400, 1000)] * 6
        self.last(before + [fewest(0, 54000)], [400] + list(range(400)))
        self.last(before + [fewest(0, 53999)], [-33])
        self.last(before + [fewest(0, 100000)], [400] + list(range(400)))

    def test_asking_changes_nothing(self):
        before = four_a_minute(5) + [bring(0, 2, 3), fewest(0, 10), fewest(0, 10)]
        self.answered(before + [look(0), there(0, 4), stock(0, 1)], [[5, 2, 1, 2, 3], [0, -12], [5]])

    def test_only_this_table_is_looked_at(self):
        before = four_a_minute(5) + [table(1, 50), passing(1, 0, 1, 900)]
        self.answered(before + [fewest(0, 10), fewest(1, 899), fewest(1, 900)], [[2, 1, 3], [-33], [1, 0]])
