from tests.lines import BIGGEST, LineTest, ask, begin, least, passing, stock, table, there, wants


class AddTable(LineTest):
    def test_tables_are_numbered_from_0(self):
        self.assertEqual(ask([begin(4)] + [table(1, 0)] * 5), [[0], [0], [1], [2], [3], [4]])

    def test_the_5th_is_taken_and_the_6th_refused(self):
        self.last([begin(4)] + [table(1, 0)] * 5, [4])
        self.refused([begin(4)] + [table(2, 3)] * 5, table(1, 0), -28)

    def test_takes_1_and_9(self):
        for takes in (1, 9):
            self.answered(
                [begin(4), table(takes, 0), passing(0, 0, 1, 10), wants(0, 0)],
                [[0], [1], [takes * 10, takes * 10]],
            )

    def test_takes_0_and_10_and_more_are_refused(self):
        for takes in (0, 10, BIGGEST):
            self.refused([begin(4), table(2, 3)], table(takes, 0), -22)

    def test_stock_0_and_100000(self):
        for cups in (0, 100000):
            self.answered([begin(4), table(1, cups), there(0, 0), stock(0, 1)], [[0], [0, cups], [cups]])

    def test_stock_above_100000_is_refused(self):
        for cups in (100001, BIGGEST):
            self.refused([begin(4), table(2, 3)], table(1, cups), -22)

    def test_22_is_told_ahead_of_28(self):
        full = [begin(4)] + [table(1, 0)] * 5
        for wrong in (table(0, 0), table(10, 0), table(1, 100001)):
            self.refused(full, wrong, -22)

    def test_a_new_table_has_neither_passes_nor_deliveries(self):
        calls = [begin(4), table(9, 5), (4, 0), wants(0, 3), there(0, 3), least(0)]
        self.answered(calls, [[-6], [0, 0], [0, 5], [0]])

    def test_tables_are_apart_from_one_another(self):
        before = [begin(4), table(1, 10), table(2, 20), passing(1, 0, 2, 3), (3, 0, 1, 4)]
        self.answered(
            before + [there(0, 3), there(1, 3), least(0), least(1), stock(0, 1), there(1, 0), there(0, 0)],
            [[0, 14], [0, 8], [0], [12], [10], [0, 14], [0, 1]],
        )

    def test_a_refused_table_is_not_there(self):
        self.last([begin(4), table(0, 0), least(0)], [-2])


class NoSuchTable(LineTest):
    def test_2_where_there_is_no_such_table(self):
        for call in (2, 0, 1, 1), (3, 0, 1), (4,), (5, 0), (6, 0), (7, 0), (8,), (9,), (13, 1), (14, 5), (17,):
            for k in (2, 5, BIGGEST):
                self.refused([begin(4), table(2, 3), table(1, 0)], (call[0], k) + call[1:], -2)
            self.refused([begin(4)], (call[0], 0) + call[1:], -2)

    def test_2_is_told_first(self):
        before = [begin(4), table(2, 3)]
        for wrong in ((2, 1, 0, 0, 0), (2, 1, 4, 1, 1), (3, 1, 4, 0), (5, 1, 100001), (6, 1, 4), (7, 1, 4)):
            self.refused(before, wrong, -2)
        for wrong in ((13, 1, 0), (13, 1, 100001), (13, BIGGEST, BIGGEST), (14, 1, 100001), (14, 1, 0)):
            self.refused(before, wrong, -2)

    def test_the_last_table_is_there(self):
        self.answered([begin(4)] + [table(1, 0)] * 5 + [least(4), least(5)], [[0], [-2]])
