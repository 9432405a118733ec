from tests.lines import LineTest, apart, begin, bring, passing, stock, sums, table, take, together


class Apart(LineTest):
    def test_a_day_without_tables(self):
        self.last([begin(4), apart()], [0])

    def test_all_leasts_then_each_one(self):
        before = [begin(4), table(1, 0), table(2, 0), table(3, 0)]
        before += [passing(2, 0, 2, 5), passing(0, 3, 1, 7)]
        self.last(before + [apart()], [37, 7, 0, 30])

    def test_one_table(self):
        self.last([begin(4), table(9, 0), apart()], [0, 0])
        self.last([begin(4), table(9, 0), passing(0, 0, 4, 2), apart()], [72, 72])

    def test_what_stands_there_at_first_is_not_looked_at(self):
        for cups in (0, 5, 100000):
            self.last([begin(4), table(1, cups), table(2, cups), passing(1, 1, 1, 3), apart()], [6, 0, 6])

    def test_a_delivery_counts_at_its_table_alone(self):
        before = [begin(4), table(1, 0), table(1, 0), passing(0, 1, 1, 10), passing(1, 1, 1, 10)]
        self.last(before + [bring(0, 0, 30), apart()], [10, 0, 10])
        self.last(before + [bring(1, 1, 4), apart()], [16, 10, 6])
        self.last(before + [bring(1, 2, 4), apart()], [20, 10, 10])

    def test_passes_that_overlap(self):
        self.last([begin(4), table(2, 0), passing(0, 0, 3, 1), passing(0, 1, 2, 4), apart()], [22, 22])

    def test_as_much_as_can_be_needed(self):
        before = [begin(400)] + [table(9, 0)] * 5
        before += [passing(k, 0, 400, 1000) for k in range(5)] * 6
        self.last(before + [apart()], [108000000] + [21600000] * 5)
        self.last(before + [together()], [108000000, 0])


class Together(LineTest):
    def test_a_day_without_tables(self):
        self.last([begin(4), together()], [0, 0])

    def test_one_table(self):
        before = [begin(4), table(2, 8), passing(0, 0, 3, 5), bring(0, 1, 4)]
        self.answered(before + [together(), apart()], [[26, 8], [26, 26]])

    def test_nobody_passes(self):
        self.last([begin(4), table(2, 8), table(3, 5), bring(0, 0, 9), together()], [0, 13])

    def test_as_many_as_apart(self):
        before = [begin(4), table(1, 3), table(2, 4), passing(0, 0, 2, 5), passing(1, 1, 3, 2)]
        self.answered(before + [apart(), together()], [[22, 10, 12], [22, 7]])

    def test_fewer_where_one_table_is_brought_what_another_lacks(self):
        before = [begin(4), table(1, 3), table(2, 4), passing(0, 2, 1, 10), passing(1, 2, 1, 10), bring(0, 0, 25)]
        self.answered(before + [apart(), together()], [[20, 0, 20], [5, 7]])

    def test_fewer_where_they_lack_at_different_times(self):
        before = [begin(4), table(1, 0), table(1, 0), passing(0, 0, 1, 6), bring(0, 1, 6), passing(1, 3, 1, 6)]
        self.answered(before + [apart(), together()], [[12, 6, 6], [6, 0]])

    def test_nothing_is_lacking_together(self):
        before = [begin(4), table(1, 0), table(1, 0), passing(0, 2, 1, 6)]
        self.last(before + [bring(1, 2, 5), together()], [1, 0])
        self.last(before + [bring(1, 2, 6), together()], [0, 0])
        self.last(before + [bring(1, 2, 7), together()], [0, 0])

    def test_a_delivery_too_late_by_one(self):
        before = [begin(4), table(1, 0), table(1, 0), passing(0, 2, 1, 6)]
        self.last(before + [bring(1, 3, 6), together()], [6, 0])

    def test_the_most_is_lacking_behind_an_early_minute(self):
        before = [begin(4), table(1, 0), table(1, 0), passing(0, 0, 1, 9), passing(1, 3, 1, 1), bring(1, 2, 50)]
        self.last(before + [together()], [9, 0])

    def test_the_last_minute_of_the_day(self):
        self.last([begin(400), table(1, 0), table(1, 1), passing(1, 399, 1, 4), together()], [4, 1])
        self.last([begin(1), table(1, 0), table(1, 1), passing(1, 0, 1, 4), together()], [4, 1])

    def test_how_many_stand_there_at_first_at_all_tables(self):
        before = [begin(4)] + [table(1, 100000)] * 5
        self.answered(before + [together(), stock(2, 1), together()], [[0, 500000], [100000], [0, 400001]])

    def test_asking_changes_nothing(self):
        before = [begin(4), table(1, 3), table(2, 4), passing(0, 0, 2, 5), bring(1, 1, 3)]
        asked = [apart(), together(), sums()]
        answers = [[10, 10, 0], [7, 7], [4, 2, 7, 3, 10]]
        self.answered(before + asked + asked + [take(1), together()], answers + answers + [[3], [10, 7]])
