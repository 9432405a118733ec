from tests.lines import BIGGEST, LineTest, apart, ask, begin, bring, enough, fewest, latest, least, level, look, passing
from tests.lines import short, steps, stock, sums, table, take, there, together, wants


class Begin(LineTest):
    def test_minutes_1_and_400_begin_a_day(self):
        self.last([begin(1)], [0])
        self.last([begin(400)], [0])

    def test_minutes_0_and_401_and_more_are_refused(self):
        for minutes in (0, 401, BIGGEST):
            self.refused([], begin(minutes), -22)
            self.refused([begin(4), table(2, 3), passing(0, 0, 2, 1)], begin(minutes), -22)

    def test_a_day_has_no_tables_at_first(self):
        self.last([begin(4), least(0)], [-2])

    def test_the_day_has_just_so_many_minutes(self):
        for minutes in (1, 2, 399, 400):
            calls = [begin(minutes), table(1, 0), wants(0, minutes - 1), wants(0, minutes)]
            self.answered(calls, [[0, 0], [-22]])

    def test_a_begin_behind_a_begin_is_a_day_without_tables(self):
        before = [begin(4), table(1, 0), table(1, 0), begin(9)]
        self.last(before, [0])
        self.last(before + [least(0)], [-2])
        self.last(before + [table(1, 0)], [0])

    def test_a_begin_behind_a_begin_sets_the_minutes(self):
        self.answered([begin(4), begin(9), table(1, 0), wants(0, 8), wants(0, 9)], [[0, 0], [-22]])
        self.answered([begin(9), begin(4), table(1, 0), wants(0, 3), wants(0, 4)], [[0, 0], [-22]])

    def test_a_new_day_keeps_nothing_of_the_tables_before(self):
        first = [begin(4), table(3, 5), passing(0, 0, 4, 10), bring(0, 1, 7)]
        self.answered(
            first + [begin(4), table(3, 5), wants(0, 3), there(0, 3), least(0), take(0)],
            [[0, 0], [0, 5], [0], [-6]],
        )

    def test_a_refused_begin_leaves_the_day_as_it_was(self):
        calls = [begin(4), table(3, 5), begin(0), begin(401), stock(0, 1), wants(0, 3), wants(0, 4)]
        self.answered(calls, [[-22], [-22], [5], [0, 0], [-22]])


class NotBegun(LineTest):
    def every_other_call(self):
        return [
            table(1, 0), passing(0, 0, 1, 1), bring(0, 0, 1), take(0), stock(0, 0), wants(0, 0), there(0, 0), least(0),
            short(0), enough(), apart(), together(), latest(0, 1), fewest(0, 0), steps(), level(), look(0), sums(),
        ]

    def test_every_other_call_is_answered_61(self):
        for call in self.every_other_call():
            self.assertEqual(ask([call]), [[-61]])

    def test_61_is_told_ahead_of_every_other_refusal(self):
        wrong = [
            table(0, BIGGEST), passing(9, 0, 0, 0), bring(9, BIGGEST, 0), take(9), stock(9, BIGGEST),
            wants(9, BIGGEST), there(9, BIGGEST), least(9), short(9), latest(9, 0), latest(0, BIGGEST),
            fewest(9, BIGGEST), fewest(0, 100001), look(BIGGEST),
        ]
        self.assertEqual(ask(wrong), [[-61]] * len(wrong))

    def test_a_refused_begin_begins_nothing(self):
        for call in self.every_other_call():
            self.assertEqual(ask([begin(0), call, begin(401), call]), [[-22], [-61], [-22], [-61]])

    def test_a_call_ahead_of_begin_changes_nothing(self):
        for call in self.every_other_call():
            self.refused([], call, -61)
            self.assertEqual(ask([call, begin(4), least(0), table(1, 2)]), [[-61], [0], [-2], [0]])
