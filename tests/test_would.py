"""What would answers, and that nothing is otherwise behind it."""

import unittest

from tests.lines import BEGIN, COUNTS, SHOW, ask, begun, ended, hold, last, leads, let, of, raw_would, told_of
from tests.lines import told_round, told_would, was

AHEAD = told_round([1, 2, 3], [4, 5], [6])


class Would(unittest.TestCase):
    def test_ahead_of_the_first_round(self):
        self.assertEqual(ask(told_would([1, 2], [3])), [[0, 2, 0, 0]])
        self.assertEqual(ask(told_would()), [[0, 0]])

    def test_a_round_that_is_as_the_one_ahead(self):
        self.assertEqual(last(AHEAD, told_would([1, 2, 3], [4, 5], [6])), [6, 3, 1, 2, 3])

    def test_how_many_keep_theirs_and_the_numbers_in_the_order_of_groups(self):
        # 7 is new, 2 and 3 stay with 1, 5 with 2; 1 and 6 are in groups that get other numbers.
        self.assertEqual(last(AHEAD, told_would([5, 6], [2, 3], [7], [1])), [3, 4, 0, 1, 2, 0])

    def test_groups_that_join(self):
        self.assertEqual(last(AHEAD, told_would([1, 2, 3, 4, 5, 6])), [3, 1, 1])
        self.assertEqual(last(AHEAD, told_would([1, 4], [5, 6])), [2, 2, 1, 2])

    def test_none_keeps_theirs(self):
        self.assertEqual(last(AHEAD, told_would([10], [11], [12])), [0, 3, 0, 0, 0])

    def test_an_empty_round(self):
        self.assertEqual(ask(AHEAD, told_would(), SHOW)[1:], [[0, 0], [3, 1, 3, 1, 2, 3, 2, 2, 4, 5, 3, 1, 6]])
        self.assertEqual(last(AHEAD, hold(1, 1), told_would()), [0, 0])

    def test_behind_an_empty_round(self):
        self.assertEqual(last(AHEAD, told_round(), told_would([1, 2, 3])), [0, 1, 0])

    def test_whatever_the_order_and_the_labels_told(self):
        self.assertEqual(last(AHEAD, raw_would([6, 100, 5, 0, 2, 50, 1, 50, 4, 0])), [5, 3, 1, 2, 3])

    def test_six_groups_and_eight_records(self):
        ahead = told_round([1, 2, 3, 4, 5, 6, 7, 8])
        self.assertEqual(last(ahead, told_would([1], [2], [3], [4], [5], [6, 7, 8])), [3, 6, 0, 0, 0, 0, 0, 1])


class WithHeldNumbers(unittest.TestCase):
    def test_a_held_number_goes_to_its_record(self):
        given = ask(AHEAD, told_would([1, 2], [3]), hold(1, 3), told_would([1, 2], [3]), let(1), told_would([1, 2], [3]))
        self.assertEqual(given[1::2], [[2, 2, 1, 0], [1, 2, 0, 1], [2, 2, 1, 0]])

    def test_a_group_without_records_in_common(self):
        self.assertEqual(last(AHEAD, hold(1, 30), told_would([1, 2, 3], [30])), [0, 2, 0, 1])

    def test_the_lowest_of_several(self):
        given = last(AHEAD, hold(3, 4), hold(2, 5), told_would([1, 2, 3], [4, 5], [6]))
        self.assertEqual(given, [5, 3, 1, 2, 0])

    def test_a_record_that_is_not_told(self):
        self.assertEqual(last(AHEAD, hold(1, 6), told_would([1, 2, 3], [4])), [4, 2, 1, 2])

    def test_a_number_that_ended(self):
        self.assertEqual(last(AHEAD, told_round([6]), hold(1, 6), told_would([1, 6])), [1, 1, 3])

    def test_a_record_keeps_its_own_in_the_group_of_a_held_number(self):
        # Two of 1's records are in the group that gets it, and 4's are in none that gets 2.
        given = last(AHEAD, hold(1, 4), hold(2, 6), told_would([2, 3, 4], [5], [6]))
        self.assertEqual(given, [2, 3, 1, 0, 2])


class BehindThirtyRounds(unittest.TestCase):
    def test_it_is_not_refused(self):
        given = ask(*[told_round([1], [2, 3])] * 30, told_would([1, 2, 3]), told_round([1, 2, 3]), told_would([1], [3, 4]),
                    hold(1, 4), told_would([1], [3, 4]), told_would(), COUNTS)
        self.assertEqual(given[30:], [[2, 1, 2], [-6], [2, 2, 1, 2], [0], [0, 2, 0, 1], [0, 0], [30, 3, 0, 1]])


class ChangesNothing(unittest.TestCase):
    PARTS = [[1, 2, 4], [3, 5], [6], [7]]

    def test_the_same_round_behind_it_gets_these_numbers(self):
        for holds in ([], [hold(2, 7)], [hold(1, 6), hold(3, 6)], [hold(1, 20)]):
            given = ask(AHEAD, *holds, told_would(*self.PARTS), told_round(*self.PARTS),
                        *[of(records[0]) for records in self.PARTS])
            way = given[-6][2:]
            numbers = [part[0] for part in given[-4:]]
            new = iter(range(4, 10))
            self.assertEqual([number or next(new) for number in way], numbers)

    def test_all_others_answer_as_before(self):
        look = [SHOW, COUNTS, of(1), of(7), leads(1), leads(3), leads(4), was(1, 6), was(2, 6), was(3, 6), ended(2), begun(2),
                ended(3), begun(3)]
        start = [AHEAD, told_round([1, 2, 3], [4, 5, 6]), hold(1, 4), hold(3, 9)]
        behind = [let(1), hold(3, 8), told_round(*self.PARTS), SHOW, COUNTS]
        given = ask(*start, *look, told_would(*self.PARTS), told_would(), *look, told_would(*self.PARTS), *behind)
        self.assertEqual(given[20:34], given[4:18])
        self.assertEqual(given[34], given[18])
        self.assertEqual(given[35:], ask(*start, *behind)[4:])

    def test_a_begin_behind_it(self):
        self.assertEqual(ask(AHEAD, told_would([1]), BEGIN, told_would([1]))[1:], [[1, 1, 1], [0], [0, 1, 0]])

    def test_what_was_told_counts_for_nothing_later(self):
        told = told_of(self.PARTS)
        given = ask(raw_would(told), raw_would(told), COUNTS, leads(1), hold(1, 1))
        self.assertEqual(given, [[0, 4, 0, 0, 0, 0]] * 2 + [[0, 1, 0, 0], [-3], [-3]])


if __name__ == "__main__":
    unittest.main()
