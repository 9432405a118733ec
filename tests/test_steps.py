from tests.lines import LineTest, apart, begin, bring, enough, fewest, latest, least, level, look, passing, short, steps
from tests.lines import stock, sums, table, take, there, together, wants


def row(stand, need):
    """Tables with so many cups each, that need so many each, all in the last of 4 minutes."""
    calls = [begin(4)] + [table(1, cups) for cups in stand]
    return calls + [passing(k, 3, 1, cups) for k, cups in enumerate(need) if cups]


class Steps(LineTest):
    def test_a_day_without_tables(self):
        self.last([begin(4), steps()], [0])

    def test_one_table_has_no_gap(self):
        self.last(row([5], [5]) + [steps()], [0])
        self.last(row([0], [0]) + [steps()], [0])
        self.refused(row([6], [5]), steps(), -33)
        self.refused(row([4], [5]), steps(), -33)

    def test_to_the_next_one(self):
        self.last(row([5, 1], [2, 4]) + [steps()], [3, 3])

    def test_to_the_one_before(self):
        self.last(row([1, 5], [4, 2]) + [steps()], [3, -3])

    def test_over_several_gaps(self):
        self.last(row([7, 0, 0, 0, 0], [0, 0, 0, 0, 7]) + [steps()], [28, 7, 7, 7, 7])
        self.last(row([0, 0, 0, 0, 7], [7, 0, 0, 0, 0]) + [steps()], [28, -7, -7, -7, -7])

    def test_both_ways(self):
        self.last(row([0, 6, 0], [2, 0, 4]) + [steps()], [6, -2, 4])
        self.last(row([3, 0, 3], [0, 6, 0]) + [steps()], [6, 3, -3])

    def test_a_gap_over_which_nothing_is_carried(self):
        self.last(row([2, 0, 0, 3], [0, 2, 3, 0]) + [steps()], [5, 2, 0, -3])
        self.last(row([4, 5, 6], [4, 5, 6]) + [steps()], [0, 0, 0])

    def test_one_more_and_one_fewer_than_they_need_apart(self):
        for stand in ([6, 1, 0], [5, 2, 0], [5, 1, 1], [4, 1, 0], [5, 0, 0]):
            self.refused(row(stand, [2, 3, 1]), steps(), -33)
        self.last(row([5, 1, 0], [2, 3, 1]) + [steps()], [4, 3, 1])

    def test_33_though_there_are_enough_at_each(self):
        self.refused(row([3, 3], [2, 3]), steps(), -33)

    def test_what_they_need_apart_counts_not_together(self):
        before = [begin(4), table(1, 0), table(1, 0), passing(0, 0, 1, 6), bring(0, 1, 6), passing(1, 3, 1, 6)]
        self.answered(before + [apart(), together(), stock(0, 6), steps()], [[12, 6, 6], [6, 0], [0], [-33]])
        self.last(before + [stock(1, 12), steps()], [6, -6])

    def test_deliveries_are_counted_in_what_is_needed(self):
        before = row([5, 1], [2, 9]) + [bring(1, 3, 5)]
        self.last(before + [steps()], [3, 3])
        self.answered(before + [take(1), steps()], [[5], [-33]])

    def test_asking_changes_nothing(self):
        calls = row([5, 1], [2, 4]) + [steps(), steps(), look(0), look(1)]
        self.answered(calls, [[3, 3], [3, 3], [5, 1, 1], [1, 1, 1]])


class Level(LineTest):
    def test_a_day_without_tables(self):
        self.answered([begin(4), level(), sums(), level()], [[0], [4, 0, 0, 0, 0], [0]])

    def test_one_table(self):
        self.answered(row([5], [5]) + [level(), look(0)], [[0], [5, 1, 1]])
        self.refused(row([6], [5]), level(), -33)
        self.refused(row([4], [5]), level(), -33)

    def test_how_many_steps_then_each_table_has_its_least(self):
        calls = row([2, 0, 0, 3], [0, 2, 3, 0]) + [level()] + [look(k) for k in range(4)] + [enough(), steps(), level()]
        self.answered(calls, [[5], [0, 1, 0], [2, 1, 1], [3, 1, 1], [0, 1, 0], [0], [0, 0, 0, 0], [0]])

    def test_steps_are_counted_either_way(self):
        self.last(row([1, 5], [4, 2]) + [level()], [3])
        self.last(row([0, 6, 0], [2, 0, 4]) + [level()], [6])

    def test_one_more_and_one_fewer_than_they_need_apart(self):
        for stand in ([6, 1, 0], [5, 2, 0], [5, 1, 1], [4, 1, 0], [5, 0, 0]):
            self.refused(row(stand, [2, 3, 1]), level(), -33)
        self.last(row([5, 1, 0], [2, 3, 1]) + [level()], [4])

    def test_what_they_need_apart_counts_not_together(self):
        before = [begin(4), table(1, 6), table(1, 0), passing(0, 0, 1, 6), bring(0, 1, 6), passing(1, 3, 1, 6)]
        self.refused(before, level(), -33)

    def test_nothing_else_is_moved(self):
        before = [begin(4), table(2, 11), table(3, 5), table(4, 0), passing(0, 1, 2, 3), passing(1, 0, 3, 2)]
        before += [passing(1, 1, 1, 1), bring(1, 2, 9), bring(1, 0, 8), bring(0, 3, 5), bring(2, 0, 1)]
        asked = [look(0), look(1), look(2), least(0), least(1), least(2), apart(), together(), sums()]
        asked += [wants(k, t) for k in range(3) for t in range(4)]
        told = [
            [2, 1, 3, 5], [3, 2, 2, 9, 0, 8], [4, 0, 0, 1], [12], [7], [0], [19, 12, 7, 0], [15, 19],
            [4, 3, 19, 23, 33],
        ]
        wanted = [[0, 0], [6, 6], [6, 12], [0, 12], [6, 6], [9, 15], [6, 21], [0, 21]] + [[0, 0]] * 4
        self.last(before + [stock(1, 8), steps()], [1, -1, 0])
        ahead = [[11] + told[0], [8] + told[1], [0] + told[2]] + told[3:] + wanted
        behind = [[12] + told[0], [7] + told[1], [0] + told[2]] + told[3:] + wanted
        self.answered(before + [stock(1, 8)] + asked + [level()] + asked, ahead + [[1]] + behind)

    def test_what_stands_there_behind_it(self):
        before = row([5, 1], [2, 4]) + [level()]
        self.answered(
            before + [there(0, 2), there(0, 3), there(1, 2), there(1, 3), short(0), short(1), stock(0, 9)],
            [[0, 2], [0, 0], [0, 4], [0, 0], [-6], [-6], [2]],
        )

    def test_what_is_told_behind_it_is_needed_too(self):
        before = row([5, 1], [2, 4]) + [level(), passing(1, 0, 1, 1)]
        self.answered(before + [enough(), steps(), stock(0, 3), level(), look(1)], [[1, 1], [-33], [2], [1], [5, 1, 2]])


class AboveTheMost(LineTest):
    def before(self):
        """Behind level 500,000 stand at table 2, and none at the others."""
        return [begin(100)] + [table(5, 100000)] * 5 + [passing(2, 0, 100, 1000), steps(), level()]

    def test_more_than_100000_may_stand_at_a_table(self):
        self.answered(self.before(), [[600000, 100000, 200000, -200000, -100000], [600000]])
        self.answered(self.before() + [look(2), look(1)], [[500000, 5, 1], [0, 5, 0]])
        self.last(self.before() + [sums()], [100, 5, 500000, 0, 500000])
        self.answered(self.before() + [together(), apart()], [[500000, 500000], [500000, 0, 0, 500000, 0, 0]])
        self.answered(self.before() + [there(2, 0), there(2, 99), enough()], [[0, 495000], [0, 0], [0]])

    def test_a_second_level(self):
        self.answered(self.before() + [steps(), level(), look(2)], [[0, 0, 0, 0, 0], [0], [500000, 5, 1]])

    def test_it_holds_less_than_stands_there(self):
        for holds in (0, 99999, 100000, 100001, 499999, 500000):
            self.last(self.before() + [fewest(2, holds)], [-22])
        self.answered(self.before() + [fewest(2, 500000), look(2)], [[-22], [500000, 5, 1]])
        self.last(self.before() + [fewest(1, 0)], [0])

    def test_stock_tells_how_many_did(self):
        calls = [stock(2, 500000), stock(2, 100001), stock(2, 100000), stock(2, 3), sums()]
        self.answered(self.before() + calls, [[-22], [-22], [500000], [100000], [100, 5, 3, 0, 500000]])

    def test_bring_and_latest(self):
        calls = [latest(2, 1), bring(2, 0, 100000), there(2, 0), look(2)]
        self.answered(self.before() + calls, [[99], [1], [0, 595000], [500000, 5, 1, 0, 100000]])

    def test_back_from_above_the_most(self):
        calls = [passing(k, 0, 20, 1000) for k in (0, 1)] + [bring(2, 0, 100000), bring(2, 0, 100000)]
        gaps = [500000, -100000, -200000, 0, 0]
        self.answered(
            self.before() + calls + [apart(), steps(), level(), look(0), look(1), look(2)],
            [
                [500000, 100000, 100000, 300000, 0, 0], [sum(abs(gap) for gap in gaps[1:])] + gaps[1:], [300000],
                [100000, 5, 1], [100000, 5, 1], [300000, 5, 1, 0, 100000, 0, 100000],
            ],
        )

    def test_one_above_the_most(self):
        before = [begin(101), table(1, 100000), table(1, 1), passing(0, 0, 100, 1000), passing(0, 100, 1, 1)]
        self.answered(
            before + [level(), look(0), fewest(0, 100000), fewest(0, 100001), stock(0, 100001), stock(0, 100000)],
            [[1], [100001, 1, 2], [-22], [-22], [-22], [100001]],
        )
