from tests.lines import LineTest, begin, bring, look, passing, stock, sums, table, take


class Look(LineTest):
    def test_a_new_table(self):
        self.answered([begin(4), table(2, 3), table(9, 100000), look(0), look(1)], [[3, 2, 0], [100000, 9, 0]])

    def test_how_many_passes_it_has(self):
        for count in range(7):
            self.last([begin(4), table(2, 3)] + [passing(0, 0, 1, 9)] * count + [look(0)], [3, 2, count])
        self.last([begin(4), table(2, 3)] + [passing(0, 0, 1, 9)] * 7 + [look(0)], [3, 2, 6])

    def test_of_each_delivery_its_minute_and_how_many_in_the_order_they_are_told(self):
        before = [begin(4), table(2, 3), bring(0, 3, 30), bring(0, 0, 100000), bring(0, 2, 20), bring(0, 0, 1)]
        self.last(before + [look(0)], [3, 2, 0, 3, 30, 0, 100000, 2, 20, 0, 1])

    def test_6_deliveries(self):
        before = [begin(400), table(2, 3)] + [bring(0, 399 - t, t + 1) for t in range(6)]
        told = [3, 2, 0, 399, 1, 398, 2, 397, 3, 396, 4, 395, 5, 394, 6]
        self.answered(before + [look(0), bring(0, 0, 1), look(0)], [told, [-28], told])

    def test_behind_take_and_stock(self):
        before = [begin(4), table(2, 3), bring(0, 3, 30), bring(0, 1, 10)]
        self.answered(
            before + [take(0), look(0), stock(0, 0), look(0), take(0), look(0)],
            [[10], [3, 2, 0, 3, 30], [3], [0, 2, 0, 3, 30], [30], [0, 2, 0]],
        )

    def test_each_table_by_itself(self):
        before = [begin(4), table(2, 3), table(1, 0), passing(1, 0, 1, 1), bring(0, 1, 5)]
        self.answered(before + [look(0), look(1), look(0)], [[3, 2, 0, 1, 5], [0, 1, 1], [3, 2, 0, 1, 5]])


class Sums(LineTest):
    def test_a_day_without_tables(self):
        self.last([begin(1), sums()], [1, 0, 0, 0, 0])
        self.last([begin(400), sums()], [400, 0, 0, 0, 0])

    def test_at_all_tables(self):
        before = [begin(4), table(2, 3), table(5, 40), passing(0, 0, 2, 6), passing(1, 3, 1, 7), passing(1, 1, 2, 1)]
        before += [bring(0, 0, 100), bring(1, 3, 1000), bring(1, 2, 1)]
        self.last(before + [sums()], [4, 2, 43, 1101, 69])

    def test_what_is_brought_and_wanted_in_the_first_and_the_last_minute(self):
        for minutes in (1, 4, 400):
            for minute in (0, minutes - 1):
                before = [begin(minutes), table(2, 3), bring(0, minute, 8), passing(0, minute, 1, 5)]
                self.last(before + [sums()], [minutes, 1, 3, 8, 10])

    def test_behind_take_and_stock(self):
        before = [begin(4), table(2, 3), table(1, 1), bring(0, 3, 30), bring(0, 1, 10)]
        self.answered(
            before + [take(0), sums(), stock(0, 0), sums()],
            [[10], [4, 2, 4, 30, 0], [3], [4, 2, 1, 30, 0]],
        )

    def test_as_much_as_there_can_be(self):
        before = [begin(400)] + [table(9, 100000)] * 5
        before += [passing(k, 0, 400, 1000) for k in range(5)] * 6 + [bring(k, 0, 100000) for k in range(5)] * 6
        self.last(before + [sums()], [400, 5, 500000, 3000000, 108000000])

    def test_asking_changes_nothing(self):
        before = [begin(4), table(2, 3), passing(0, 0, 2, 6), bring(0, 0, 5)]
        told = [[3, 2, 1, 0, 5], [4, 1, 3, 5, 24]]
        self.answered(before + [look(0), sums()] * 2, told * 2)

    def test_a_new_day(self):
        self.last([begin(4), table(2, 3), passing(0, 0, 2, 6), begin(7), sums()], [7, 0, 0, 0, 0])
