from tests.lines import BIGGEST, LineTest, ask, begin, bring, least, passing, short, stock, table, take, there, wants


class Wants(LineTest):
    def test_in_the_minute_and_up_to_it(self):
        before = [begin(5), table(3, 0), passing(0, 1, 3, 10)]
        self.answered(
            before + [wants(0, t) for t in range(5)],
            [[0, 0], [30, 30], [30, 60], [30, 90], [0, 90]],
        )

    def test_passes_that_overlap_are_added(self):
        before = [begin(5), table(2, 0), passing(0, 0, 3, 10), passing(0, 2, 3, 1), passing(0, 2, 1, 100)]
        self.answered(
            before + [wants(0, t) for t in range(5)],
            [[20, 20], [20, 40], [222, 262], [2, 264], [2, 266]],
        )

    def test_stock_and_deliveries_are_not_looked_at(self):
        before = [begin(2), table(2, 50), passing(0, 0, 2, 1), bring(0, 0, 7)]
        self.answered(before + [wants(0, 1)], [[2, 4]])

    def test_a_table_nobody_passes(self):
        self.answered([begin(2), table(9, 50), wants(0, 0), wants(0, 1)], [[0, 0], [0, 0]])

    def test_as_much_as_can_be_wanted(self):
        before = [begin(400), table(9, 0)] + [passing(0, 0, 400, 1000)] * 6
        self.answered(before + [wants(0, 399), there(0, 399)], [[54000, 21600000], [0, -21600000]])

    def test_a_minute_that_is_not_of_the_day_is_refused(self):
        for minute in (4, 5, BIGGEST):
            self.refused([begin(4), table(2, 3)], wants(0, minute), -22)

    def test_asking_changes_nothing(self):
        before = [begin(4), table(2, 3), passing(0, 1, 2, 4), bring(0, 2, 5)]
        asked = [wants(0, 2), there(0, 2), least(0), short(0)]
        answers = ask(before + asked + asked + asked)
        self.assertEqual(answers[4:8], answers[8:12])
        self.assertEqual(answers[4:8], answers[12:])


class There(LineTest):
    def test_what_stood_there_and_was_brought_less_what_was_wanted(self):
        before = [begin(5), table(2, 10), passing(0, 1, 2, 3), bring(0, 2, 7)]
        self.answered(
            before + [there(0, t) for t in range(5)],
            [[0, 10], [0, 4], [0, 5], [0, 5], [0, 5]],
        )

    def test_below_0(self):
        before = [begin(3), table(4, 5), passing(0, 0, 2, 3), bring(0, 2, 30)]
        self.answered(before + [there(0, t) for t in range(3)], [[0, -7], [0, -19], [0, 11]])

    def test_several_deliveries_in_whatever_order(self):
        before = [begin(4), table(1, 0), bring(0, 3, 1), bring(0, 1, 10), bring(0, 1, 100)]
        self.answered(before + [there(0, t) for t in range(4)], [[0, 0], [0, 110], [0, 110], [0, 111]])

    def test_a_minute_that_is_not_of_the_day_is_refused(self):
        for minute in (4, 5, BIGGEST):
            self.refused([begin(4), table(2, 3)], there(0, minute), -22)


class Least(LineTest):
    def test_all_that_is_wanted_where_nothing_is_brought(self):
        self.last([begin(5), table(3, 0), passing(0, 1, 3, 10), least(0)], [90])

    def test_what_stands_there_at_first_is_not_looked_at(self):
        for cups in (0, 20, 100000):
            self.last([begin(2), table(3, cups), passing(0, 0, 2, 10), least(0)], [60])

    def test_the_most_that_is_lacking_behind_any_minute(self):
        before = [begin(6), table(1, 0), passing(0, 0, 2, 10), passing(0, 4, 1, 15)]
        self.last(before + [bring(0, 2, 20), least(0)], [20])
        self.last(before + [bring(0, 2, 10), least(0)], [25])

    def test_what_was_brought_and_not_wanted_stays(self):
        self.last([begin(4), table(1, 0), bring(0, 0, 30), passing(0, 2, 1, 35), least(0)], [5])

    def test_nothing_is_lacking(self):
        self.last([begin(4), table(1, 0), bring(0, 0, 30), passing(0, 0, 3, 10), least(0)], [0])
        self.last([begin(4), table(1, 0), bring(0, 0, 99), passing(0, 0, 3, 10), least(0)], [0])

    def test_a_delivery_in_the_very_minute(self):
        self.last([begin(4), table(2, 0), passing(0, 2, 1, 10), bring(0, 2, 20), least(0)], [0])

    def test_a_delivery_too_late_by_one(self):
        self.last([begin(4), table(2, 0), passing(0, 2, 1, 10), bring(0, 3, 20), least(0)], [20])

    def test_a_table_nobody_passes(self):
        self.last([begin(4), table(9, 0), least(0)], [0])
        self.last([begin(4), table(9, 5), bring(0, 3, 1), least(0)], [0])

    def test_the_last_minute_of_the_day(self):
        self.last([begin(400), table(2, 0), passing(0, 399, 1, 10), least(0)], [20])
        self.last([begin(1), table(2, 0), passing(0, 0, 1, 10), least(0)], [20])

    def test_a_delivery_that_is_taken_is_lacking_again(self):
        before = [begin(4), table(1, 0), passing(0, 0, 3, 10), bring(0, 1, 15)]
        self.answered(before + [least(0), take(0), least(0)], [[15], [15], [30]])


class Short(LineTest):
    def test_the_first_minute_and_by_how_much(self):
        before = [begin(5), table(2, 50), passing(0, 1, 4, 10)]
        self.last(before + [short(0)], [3, 30])

    def test_just_enough_and_one_too_few(self):
        before = [begin(5), table(2, 0), passing(0, 1, 4, 10)]
        self.answered(before + [stock(0, 80), short(0), stock(0, 79), short(0)], [[0], [-6], [80], [4, 1]])

    def test_6_where_there_are_enough(self):
        self.refused([begin(4), table(2, 3)], short(0), -6)
        self.refused([begin(4), table(2, 6), passing(0, 0, 3, 1)], short(0), -6)
        self.last([begin(4), table(2, 7), passing(0, 0, 3, 1), short(0)], [-6])
        self.last([begin(4), table(2, 0), passing(0, 0, 3, 1), bring(0, 0, 6), short(0)], [-6])

    def test_nothing_at_first(self):
        self.last([begin(4), table(2, 0), passing(0, 0, 4, 1), short(0)], [0, 8])
        self.last([begin(4), table(2, 0), short(0)], [-6])

    def test_a_delivery_in_the_very_minute(self):
        self.last([begin(4), table(2, 5), passing(0, 2, 1, 10), bring(0, 2, 15), short(0)], [-6])

    def test_a_delivery_too_late_by_one(self):
        self.last([begin(4), table(2, 5), passing(0, 2, 1, 10), bring(0, 3, 15), short(0)], [2, 15])

    def test_the_first_minute_is_not_the_one_with_the_most_lacking(self):
        before = [begin(6), table(1, 5), passing(0, 1, 1, 6), bring(0, 2, 10), passing(0, 4, 2, 20)]
        self.answered(before + [short(0), there(0, 1), there(0, 2), there(0, 5)], [[1, 31], [0, -1], [0, 9], [0, -31]])

    def test_the_last_minute_of_the_day(self):
        self.last([begin(400), table(1, 0), passing(0, 399, 1, 1), short(0)], [399, 1])
        self.last([begin(1), table(1, 0), passing(0, 0, 1, 1), short(0)], [0, 1])

    def test_only_this_table_is_looked_at(self):
        before = [begin(4), table(2, 0), table(1, 100), passing(0, 1, 1, 5)]
        self.answered(before + [short(0), short(1)], [[1, 10], [-6]])
