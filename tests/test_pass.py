from tests.lines import BIGGEST, LineTest, ask, begin, passing, table, wants


def one_table(minutes=4, takes=2):
    return [begin(minutes), table(takes, 3)]


class AddPass(LineTest):
    def test_how_many_it_has_up_to_the_6th(self):
        self.assertEqual(ask(one_table() + [passing(0, 0, 1, 1)] * 6)[2:], [[1], [2], [3], [4], [5], [6]])

    def test_the_7th_is_refused(self):
        self.refused(one_table() + [passing(0, 1, 2, 5)] * 6, passing(0, 0, 1, 1), -28)

    def test_each_table_has_its_own_6(self):
        calls = one_table() + [table(1, 0)] + [passing(0, 0, 1, 1)] * 6 + [passing(1, 0, 1, 1), passing(0, 0, 1, 1)]
        self.answered(calls, [[1], [-28]])

    def test_long_1_is_one_minute(self):
        calls = one_table() + [passing(0, 1, 1, 5), wants(0, 0), wants(0, 1), wants(0, 2)]
        self.answered(calls, [[1], [0, 0], [10, 10], [0, 10]])

    def test_long_0_is_refused(self):
        for first in (0, 3):
            self.refused(one_table(), passing(0, first, 0, 1), -22)

    def test_many_1_and_1000(self):
        for many in (1, 1000):
            self.answered(one_table() + [passing(0, 0, 1, many), wants(0, 0)], [[1], [2 * many, 2 * many]])

    def test_many_0_and_1001_and_more_are_refused(self):
        for many in (0, 1001, BIGGEST):
            self.refused(one_table(), passing(0, 0, 1, many), -22)

    def test_a_pass_may_end_with_the_last_minute(self):
        for first in range(4):
            calls = one_table() + [passing(0, first, 4 - first, 1), wants(0, 3)]
            self.answered(calls, [[1], [2, 2 * (4 - first)]])
        self.last(one_table(400) + [passing(0, 0, 400, 1)], [1])
        self.last(one_table(400) + [passing(0, 399, 1, 1)], [1])
        self.last(one_table(1) + [passing(0, 0, 1, 1)], [1])

    def test_a_pass_that_ends_a_minute_behind_it_is_refused(self):
        for first in range(5):
            self.refused(one_table(), passing(0, first, 5 - first, 1), -22)
        self.last(one_table(400) + [passing(0, 0, 401, 1)], [-22])
        self.last(one_table(1) + [passing(0, 0, 2, 1)], [-22])

    def test_a_first_minute_that_is_not_of_the_day_is_refused(self):
        for first in (4, 5, BIGGEST):
            for length in (0, 1):
                self.refused(one_table(), passing(0, first, length, 1), -22)

    def test_the_biggest_numbers_are_refused(self):
        for numbers in ((0, BIGGEST, 1), (1, BIGGEST, 1), (BIGGEST, BIGGEST, BIGGEST), (BIGGEST, 1, 1)):
            self.refused(one_table(), passing(0, *numbers), -22)

    def test_22_is_told_ahead_of_28(self):
        full = one_table() + [passing(0, 0, 1, 1)] * 6
        for wrong in ((4, 1, 1), (0, 0, 1), (0, 5, 1), (0, 1, 0), (0, 1, 1001)):
            self.refused(full, passing(0, *wrong), -22)
