import unittest

import cupsalong.cups
from tests.lines import BIGGEST, apart, ask, begin, bring, enough, fewest, latest, least, level, line_of, look, passing
from tests.lines import short, steps, stock, sums, table, take, there, together, wants

CALLS = [
    least(0), begin(0), begin(4), table(2, 5), passing(0, 0, 3, 2), bring(0, 1, 3), wants(0, 1), there(0, 2),
    least(0), short(0), enough(), latest(0, 4), stock(0, 9), short(0), look(0), take(0), take(0), there(1, 0),
    table(1, 3), steps(), apart(), together(), fewest(0, 9), fewest(0, 3), latest(0, 2), level(), steps(), sums(),
    stock(1, 4), level(), begin(3), least(0), sums(),
]
ANSWERED = [
    1, -61, 1, -22, 1, 0, 1, 0, 1, 1, 1, 1, 2, 4, 8, 2, 0, -4, 1, 9, 2, 2, 4, 2, 1, 0, 1, 2,
    1, 5, 1, -6, 5, 9, 2, 1, 1, 3, 1, 3, 1, -6, 1, -2,
    1, 1, 2, 3, -3, 3, 12, 12, 0, 2, 12, 12, 2, 1, 2, 1, -22, 1, -33, 1, 3, 2, 0, 0, 5, 4, 2, 12, 0, 12,
    1, 0, 1, -33, 1, 0, 1, -2, 5, 3, 0, 0, 0, 0,
]


class Line(unittest.TestCase):
    def test_for_each_call_how_many_numbers_then_these(self):
        self.assertEqual(cupsalong.cups.answers(line_of(CALLS)), ANSWERED)

    def test_a_line_of_one_call(self):
        self.assertEqual(cupsalong.cups.answers([0, 400]), [1, 0])
        self.assertEqual(cupsalong.cups.answers([18]), [1, -61])

    def test_a_line_of_100_calls(self):
        line = line_of([begin(400), table(1, 0)] + [passing(0, 0, 1, 1)] * 98)
        expected = [1, 0, 1, 0, 1, 1, 1, 2, 1, 3, 1, 4, 1, 5, 1, 6] + [1, -28] * 92
        self.assertEqual(cupsalong.cups.answers(line), expected)

    def test_100_calls_that_answer_much(self):
        before = [begin(400), table(1, 0), passing(0, 0, 400, 1)]
        told = ask(before + [fewest(0, 1)] * 97)
        self.assertEqual(told[3:], [[400] + list(range(400))] * 97)

    def test_every_call_with_the_biggest_numbers(self):
        widths = [1, 2, 4, 3, 1, 2, 2, 2, 1, 1, 0, 0, 0, 2, 2, 0, 0, 1, 0]
        calls = [(number,) + (BIGGEST,) * width for number, width in enumerate(widths)]
        told = [[-22], [-22]] + [[-2]] * 8 + [[1, 0], [4, 4], [4, 3], [-2], [-2], [-33], [-33], [-2], [4, 1, 3, 0, 4]]
        self.assertEqual(ask([begin(4), table(2, 3), passing(0, 0, 1, 2)] + calls)[3:], told)
        self.assertEqual(ask(calls), [[-22]] + [[-61]] * 18)

    def test_what_is_handed_in_is_as_it_was(self):
        line = line_of(CALLS)
        cupsalong.cups.answers(line)
        self.assertEqual(line, line_of(CALLS))

    def test_nothing_is_written_to_what_is_handed_in(self):
        cupsalong.cups.answers(Unchanging(line_of(CALLS)))

    def test_nothing_is_kept_from_one_time_to_the_next(self):
        line = line_of(CALLS)
        self.assertEqual(cupsalong.cups.answers(line), ANSWERED)
        self.assertEqual(cupsalong.cups.answers(line), ANSWERED)
        self.assertEqual(cupsalong.cups.answers(line_of([least(0)])), [1, -61])

    def test_what_is_given_back_may_be_changed(self):
        given = cupsalong.cups.answers(line_of(CALLS))
        given.clear()
        self.assertEqual(cupsalong.cups.answers(line_of(CALLS)), ANSWERED)

    def test_it_gives_back_a_list_of_whole_numbers(self):
        given = cupsalong.cups.answers(line_of(CALLS))
        self.assertIs(type(given), list)
        self.assertEqual({type(number) for number in given}, {int})


class Unchanging(list):
    """A list that can be read, and fails as soon as it is changed, for a while even."""

    def changed(self, *numbers):
        raise AssertionError("the list handed in was changed")

    append = extend = insert = pop = remove = clear = reverse = sort = changed
    __setitem__ = __delitem__ = __iadd__ = __imul__ = changed
