from tests.lines import LineTest, begin, bring, enough, least, passing, short, stock, table


class Enough(LineTest):
    def test_a_day_without_tables(self):
        self.last([begin(4), enough()], [0])

    def test_how_many_tables_then_these_rising(self):
        before = [begin(4)] + [table(1, 10)] * 5
        self.last(before + [enough()], [0])
        before += [passing(3, 0, 1, 11), passing(0, 3, 1, 10), passing(1, 0, 4, 3)]
        self.last(before + [enough()], [2, 1, 3])

    def test_every_table(self):
        before = [begin(4)] + [table(1, 0)] * 5 + [passing(k, 0, 1, 1) for k in range(5)]
        self.last(before + [enough()], [5, 0, 1, 2, 3, 4])

    def test_just_enough_and_one_too_few(self):
        before = [begin(4), table(2, 0), passing(0, 1, 3, 10)]
        self.answered(
            before + [stock(0, 61), enough(), stock(0, 60), enough(), stock(0, 59), enough()],
            [[0], [0], [61], [0], [60], [1, 0]],
        )

    def test_nothing_at_first(self):
        self.last([begin(4), table(2, 0), enough()], [0])
        self.last([begin(4), table(2, 0), passing(0, 3, 1, 1), enough()], [1, 0])

    def test_a_delivery_in_the_very_minute(self):
        self.last([begin(4), table(2, 5), passing(0, 2, 1, 10), bring(0, 2, 15), enough()], [0])

    def test_a_delivery_too_late_by_one(self):
        self.last([begin(4), table(2, 5), passing(0, 2, 1, 10), bring(0, 3, 15), enough()], [1, 0])

    def test_too_few_in_one_minute_alone(self):
        self.last([begin(4), table(1, 0), passing(0, 1, 1, 1), bring(0, 2, 100), enough()], [1, 0])

    def test_the_last_minute_of_the_day(self):
        self.last([begin(400), table(1, 0), passing(0, 399, 1, 1), enough()], [1, 0])
        self.last([begin(1), table(1, 0), passing(0, 0, 1, 1), enough()], [1, 0])
        self.last([begin(400), table(1, 1), passing(0, 399, 1, 1), enough()], [0])

    def test_what_one_table_has_too_many_is_not_counted_at_another(self):
        self.last([begin(4), table(1, 100), table(1, 0), passing(1, 0, 1, 1), enough()], [1, 1])

    def test_asking_changes_nothing(self):
        calls = [begin(4), table(1, 0), passing(0, 0, 1, 1), enough(), enough(), short(0), least(0)]
        self.answered(calls, [[1, 0], [1, 0], [0, 1], [1]])
