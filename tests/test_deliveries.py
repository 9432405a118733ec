from tests.lines import BIGGEST, LineTest, ask, begin, bring, passing, stock, table, take, there


def one_table(minutes=4):
    return [begin(minutes), table(2, 3)]


class Bring(LineTest):
    def test_how_many_it_has_up_to_the_6th(self):
        self.assertEqual(ask(one_table() + [bring(0, 0, 1)] * 6)[2:], [[1], [2], [3], [4], [5], [6]])

    def test_the_7th_is_refused(self):
        self.refused(one_table() + [bring(0, 1, 5)] * 6, bring(0, 0, 1), -28)

    def test_each_table_has_its_own_6(self):
        calls = one_table() + [table(1, 0)] + [bring(0, 0, 1)] * 6 + [bring(1, 0, 1), bring(0, 0, 1)]
        self.answered(calls, [[1], [-28]])

    def test_1_and_100000_cups(self):
        for cups in (1, 100000):
            self.answered(one_table() + [bring(0, 0, cups), there(0, 0)], [[1], [0, 3 + cups]])

    def test_0_and_100001_cups_and_more_are_refused(self):
        for cups in (0, 100001, BIGGEST):
            self.refused(one_table(), bring(0, 0, cups), -22)

    def test_the_last_minute_of_the_day(self):
        self.answered(one_table() + [bring(0, 3, 5), there(0, 2), there(0, 3)], [[1], [0, 3], [0, 8]])
        self.last(one_table(400) + [bring(0, 399, 1)], [1])
        self.last(one_table(1) + [bring(0, 0, 1)], [1])

    def test_a_minute_that_is_not_of_the_day_is_refused(self):
        for minute in (4, 5, BIGGEST):
            self.refused(one_table(), bring(0, minute, 1), -22)
        self.last(one_table(400) + [bring(0, 400, 1)], [-22])
        self.last(one_table(1) + [bring(0, 1, 1)], [-22])

    def test_22_is_told_ahead_of_28(self):
        full = one_table() + [bring(0, 0, 1)] * 6
        for wrong in ((4, 1), (0, 0), (0, 100001), (BIGGEST, BIGGEST)):
            self.refused(full, bring(0, *wrong), -22)


class Take(LineTest):
    def test_6_where_it_has_none(self):
        self.refused(one_table(), take(0), -6)
        self.refused(one_table() + [bring(0, 1, 5), take(0)], take(0), -6)

    def test_6_where_only_another_table_has_some(self):
        self.refused(one_table() + [table(1, 0), bring(1, 0, 5)], take(0), -6)

    def test_the_last_told_is_gone_whatever_its_minute(self):
        before = one_table() + [bring(0, 3, 30), bring(0, 1, 10), bring(0, 2, 20)]
        self.answered(
            before + [take(0), there(0, 3), take(0), there(0, 3), take(0), there(0, 3), take(0)],
            [[20], [0, 43], [10], [0, 33], [30], [0, 3], [-6]],
        )

    def test_what_is_taken_makes_room_for_another(self):
        calls = one_table() + [bring(0, 0, 1)] * 6 + [take(0), bring(0, 1, 9), bring(0, 1, 9)]
        self.answered(calls, [[1], [6], [-28]])

    def test_passes_stay_as_they_are(self):
        calls = one_table() + [passing(0, 0, 2, 5), bring(0, 0, 8), take(0), there(0, 1)]
        self.answered(calls, [[8], [0, -17]])


class Stock(LineTest):
    def test_how_many_stood_there(self):
        self.answered(one_table() + [stock(0, 9), stock(0, 0), stock(0, 4)], [[3], [9], [0]])

    def test_so_many_stand_there(self):
        self.answered(one_table() + [bring(0, 1, 5), stock(0, 9), there(0, 0), there(0, 1)], [[3], [0, 9], [0, 14]])

    def test_0_and_100000_cups(self):
        self.answered(one_table() + [stock(0, 0), there(0, 0)], [[3], [0, 0]])
        self.answered(one_table() + [stock(0, 100000), there(0, 0)], [[3], [0, 100000]])

    def test_above_100000_is_refused(self):
        for cups in (100001, BIGGEST):
            self.refused(one_table(), stock(0, cups), -22)
