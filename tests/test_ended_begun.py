"""What ended, begun and counts answer."""

import unittest

from tests.lines import BEGIN, COUNTS, SHOW, ask, begun, ended, hold, last, leads, let, of, raw_round, told_round, told_would
from tests.lines import was

HIGHEST = 4294967295


class Ended(unittest.TestCase):
    def test_none_in_the_first_round(self):
        self.assertEqual(last(told_round([1], [2]), ended(1)), [0])
        self.assertEqual(last(told_round(), ended(1)), [0])

    def test_none_where_all_stay(self):
        self.assertEqual(last(told_round([1], [2]), told_round([1, 3], [2], [4]), ended(2)), [0])

    def test_one_that_led_to_another(self):
        self.assertEqual(last(told_round([1], [2, 3]), told_round([1, 2, 3]), ended(2)), [1, 1, 2])

    def test_one_that_led_to_a_new_number(self):
        # 1 and 2 are held to 30, which 1 gets; the group of 2's record gets a new one.
        given = ask(told_round([1], [2]), hold(1, 30), hold(2, 30), told_round([1], [2], [30]), ended(2))
        self.assertEqual(given[3:], [[2, 3, 3, 1, 1, 4, 1, 2, 1, 1, 30], [1, 2, 4]])

    def test_one_that_led_nowhere(self):
        self.assertEqual(last(told_round([1], [2]), told_round([2]), ended(2)), [1, 1, 0])

    def test_all_led_nowhere(self):
        self.assertEqual(last(told_round([1], [2], [3]), told_round(), ended(2)), [3, 1, 0, 2, 0, 3, 0])

    def test_in_the_order_of_their_groups_ahead_and_not_of_their_numbers(self):
        rounds = [told_round([9], [10, 11]), told_round([1], [5], [9], [10, 11]), told_round([10, 11, 9, 1])]
        given = ask(*rounds, ended(3))
        self.assertEqual(given[1], [2, 4, 3, 1, 1, 4, 1, 5, 1, 1, 9, 2, 2, 10, 11])
        self.assertEqual(given[3], [3, 3, 2, 4, 0, 1, 2])

    def test_to_the_group_with_most_records(self):
        given = ask(told_round([1, 2], [3, 4, 5], [6, 7, 8]), told_round([1, 2, 3], [4, 5, 6, 7, 8]), ended(2))
        self.assertEqual(given[1:], [[2, 2, 1, 3, 1, 2, 3, 3, 5, 4, 5, 6, 7, 8], [1, 2, 3]])

    def test_of_several_to_the_first_group_and_not_to_the_lower_number(self):
        # One record of 3 is in each group; the first has number 2, the other 1.
        rounds = [told_round([6, 7, 8]), told_round([1, 2, 3], [4, 5], [6, 7, 8]),
                  told_round([1, 2, 3, 4], [5, 6, 7, 8])]
        given = ask(*rounds, ended(3))
        self.assertEqual(given[2:], [[3, 2, 2, 4, 1, 2, 3, 4, 1, 4, 5, 6, 7, 8], [1, 3, 2]])

    def test_where_it_led_then_and_not_where_it_leads_now(self):
        rounds = [told_round([1], [2, 3]), told_round([1, 2, 3], [4, 5, 6, 7]), told_round([1, 2, 3, 4, 5, 6, 7]), told_round()]
        given = ask(*rounds, ended(2), ended(3), ended(4), leads(1))
        self.assertEqual(given[4:], [[1, 1, 2], [1, 2, 3], [1, 3, 0], [0]])

    def test_earlier_rounds_stay_as_they_were(self):
        rounds = [told_round([1], [2]), told_round([1, 2]), told_round([1], [2]), told_round([2])]
        for which, expected in ((1, [0]), (2, [1, 2, 1]), (3, [0]), (4, [1, 1, 0])):
            for known in range(which, 5):
                self.assertEqual(last(*rounds[:known], ended(which)), expected)

    def test_no_such_round(self):
        self.assertEqual(ask(ended(0), ended(1), ended(HIGHEST)), [[-3]] * 3)
        given = ask(told_round([1]), ended(0), ended(1), ended(2), ended(30), ended(HIGHEST))
        self.assertEqual(given[1:], [[-3], [0], [-3], [-3], [-3]])

    def test_the_thirtieth_round(self):
        given = ask(*[told_round([which]) for which in range(1, 31)], ended(30), ended(31), begun(30), begun(31))
        self.assertEqual(given[30:], [[1, 29, 0], [-3], [1, 30], [-3]])


class Begun(unittest.TestCase):
    def test_all_in_the_first_round(self):
        self.assertEqual(last(told_round([1], [2], [3]), begun(1)), [3, 1, 2, 3])

    def test_none(self):
        given = ask(told_round([1], [2]), told_round([1, 2]), told_round(), begun(2), begun(3))
        self.assertEqual(given[3:], [[0], [0]])
        self.assertEqual(last(told_round(), begun(1)), [0])

    def test_only_those_that_were_new_rising(self):
        given = ask(told_round([5], [8]), told_round([8], [2], [5], [9]), told_round([1], [5]), begun(1), begun(2), begun(3))
        self.assertEqual(given[3:], [[2, 1, 2], [2, 3, 4], [1, 5]])

    def test_a_held_number_is_not_new(self):
        given = ask(told_round([1]), hold(1, 7), told_round([1], [7]), begun(2), ended(2))
        self.assertEqual(given[2:], [[2, 2, 2, 1, 1, 1, 1, 7], [1, 2], [0]])

    def test_earlier_rounds_stay_as_they_were(self):
        rounds = [told_round([1]), told_round([1], [2]), told_round([2]), told_round([1], [2])]
        for which, expected in ((1, [1, 1]), (2, [1, 2]), (3, [0]), (4, [1, 3])):
            for known in range(which, 5):
                self.assertEqual(last(*rounds[:known], begun(which)), expected)

    def test_no_such_round(self):
        self.assertEqual(ask(begun(0), begun(1), begun(HIGHEST)), [[-3]] * 3)
        given = ask(told_round([1]), begun(0), begun(1), begun(2), begun(30), begun(HIGHEST))
        self.assertEqual(given[1:], [[-3], [1, 1], [-3], [-3], [-3]])


class Counts(unittest.TestCase):
    def test_at_the_beginning(self):
        self.assertEqual(ask(COUNTS, BEGIN, COUNTS), [[0, 1, 0, 0], [0], [0, 1, 0, 0]])

    def test_behind_rounds(self):
        given = ask(told_round([1], [2]), COUNTS, told_round([1, 2]), COUNTS, told_round(), COUNTS, told_round([1]), COUNTS)
        self.assertEqual(given[1::2], [[1, 3, 0, 0], [2, 3, 1, 0], [3, 3, 2, 0], [4, 4, 2, 0]])

    def test_behind_holds_and_lets(self):
        given = ask(told_round([1], [2]), hold(1, 9), COUNTS, hold(2, 9), COUNTS, hold(2, 8), COUNTS, let(1), COUNTS, let(2),
                    COUNTS)
        self.assertEqual(given[2::2], [[1, 3, 0, 1], [1, 3, 0, 2], [1, 3, 0, 2], [1, 3, 0, 1], [1, 3, 0, 0]])

    def test_a_held_number_that_ended_is_held_and_has_ended(self):
        self.assertEqual(last(told_round([1], [2]), hold(1, 1), told_round([2]), COUNTS), [2, 3, 1, 1])

    def test_behind_refusals(self):
        wrong = [raw_round([1]), told_would([0]), hold(3, 1), hold(1, 31), let(2), leads(3), was(3, 1), ended(3), begun(0)]
        for call in wrong:
            given = ask(told_round([1], [2]), told_round([1]), hold(1, 1), COUNTS, call, COUNTS)
            self.assertLess(given[4][0], 0)
            self.assertEqual([given[3], given[5]], [[2, 3, 1, 1]] * 2)

    def test_behind_looks(self):
        looks = [SHOW, of(1), leads(1), was(1, 1), ended(2), begun(1), told_would([3]), COUNTS]
        given = ask(told_round([1], [2]), told_round([1]), hold(1, 1), *looks, COUNTS)
        self.assertEqual(given[-1], [2, 3, 1, 1])

    def test_behind_thirty_rounds(self):
        given = ask(*[told_round([which]) for which in range(1, 31)], COUNTS, told_round([1]), COUNTS)
        self.assertEqual(given[30:], [[30, 31, 29, 0], [-6], [30, 31, 29, 0]])

    def test_behind_a_begin(self):
        given = ask(told_round([1], [2]), told_round([1]), hold(1, 1), BEGIN, COUNTS, ended(1), begun(1), ended(2), let(1),
                    told_would([1]), told_round([3], [4]), COUNTS, begun(1))
        self.assertEqual(given[4:], [[0, 1, 0, 0], [-3], [-3], [-3], [-3], [0, 1, 0], [1, 2, 1, 1, 3, 2, 1, 4], [1, 3, 0, 0],
                                     [2, 1, 2]])


if __name__ == "__main__":
    unittest.main()
