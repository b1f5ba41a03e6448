"""Which groups a round has, and which numbers these get."""

import unittest

from tests.lines import SHOW, ask, last, leads, raw_round, told_round


class GroupsOfARound(unittest.TestCase):
    def test_first_round_gives_new_numbers_in_the_order_of_groups(self):
        self.assertEqual(ask(told_round([1, 2], [3], [4, 5])), [[1, 3, 1, 2, 1, 2, 2, 1, 3, 3, 2, 4, 5]])

    def test_groups_stand_by_their_least_records_whatever_the_order_told(self):
        told = [9, 5, 30, 7, 4, 100, 2, 5, 8, 100, 1, 7]
        self.assertEqual(last(raw_round(told)), [1, 3, 1, 2, 1, 30, 2, 2, 2, 9, 3, 2, 4, 8])

    def test_labels_do_not_order_groups(self):
        self.assertEqual(last(raw_round([1, 100, 2, 0, 3, 50])), [1, 3, 1, 1, 1, 2, 1, 2, 3, 1, 3])

    def test_labels_of_two_rounds_have_nothing_to_do_with_one_another(self):
        given = last(raw_round([1, 5, 2, 6]), raw_round([1, 6, 2, 5]))
        self.assertEqual(given, [2, 2, 1, 1, 1, 2, 1, 2])

    def test_empty_round(self):
        self.assertEqual(ask(told_round(), SHOW, told_round([3]), told_round(), SHOW),
                         [[1, 0], [0], [2, 1, 1, 1, 3], [3, 0], [0]])


class OrdinaryRounds(unittest.TestCase):
    def test_groups_that_stay_keep_their_numbers(self):
        self.assertEqual(last(told_round([1, 2], [3, 4]), told_round([3, 4], [1, 2])),
                         [2, 2, 1, 2, 1, 2, 2, 2, 3, 4])

    def test_a_group_that_grows(self):
        self.assertEqual(last(told_round([2], [4]), told_round([1, 2, 3], [4])), [2, 2, 1, 3, 1, 2, 3, 2, 1, 4])

    def test_a_group_that_shrinks(self):
        self.assertEqual(last(told_round([1, 2, 3], [4]), told_round([2], [4])), [2, 2, 1, 1, 2, 2, 1, 4])

    def test_groups_that_join_keep_the_number_of_most_records(self):
        given = ask(told_round([1], [2, 3]), told_round([1, 2, 3]), leads(1), leads(2))
        self.assertEqual(given[1:], [[2, 1, 2, 3, 1, 2, 3], [2], [2]])

    def test_a_group_that_falls_apart_leaves_its_number_with_most_records(self):
        given = ask(told_round([1, 2, 3]), told_round([1], [2, 3]), leads(1))
        self.assertEqual(given[1:], [[2, 2, 2, 1, 1, 1, 2, 2, 3], [1]])

    def test_groups_that_come_and_go(self):
        given = ask(told_round([2], [5]), told_round([1], [5], [9]), told_round([1], [2]))
        self.assertEqual(given, [[1, 2, 1, 1, 2, 2, 1, 5],
                                 [2, 3, 3, 1, 1, 2, 1, 5, 4, 1, 9],
                                 [3, 2, 3, 1, 1, 5, 1, 2]])

    def test_a_group_that_comes_again_gets_a_new_number(self):
        self.assertEqual(last(told_round([7]), told_round(), told_round([7])), [3, 1, 2, 1, 7])

    def test_only_the_round_ahead_counts(self):
        given = last(told_round([1, 2], [3]), told_round([3]), told_round([1, 2], [3]))
        self.assertEqual(given, [3, 2, 3, 2, 1, 2, 2, 1, 3])

    def test_new_numbers_are_given_in_the_order_of_groups(self):
        given = last(told_round([5]), told_round([9], [5], [2], [7]))
        self.assertEqual(given, [2, 4, 2, 1, 2, 1, 1, 5, 3, 1, 7, 4, 1, 9])

    def test_a_number_that_none_got_is_not_given_later(self):
        given = ask(told_round([1]), told_round([2]), told_round([1], [2], [3]))
        self.assertEqual(given[1:], [[2, 1, 2, 1, 2], [3, 3, 3, 1, 1, 2, 1, 2, 4, 1, 3]])

    def test_a_group_without_records_in_common_does_not_take_a_free_number(self):
        self.assertEqual(last(told_round([1], [2]), told_round([2], [3])), [2, 2, 2, 1, 2, 3, 1, 3])


class MostRecordsKeepTheirs(unittest.TestCase):
    def test_the_largest_share_gives_way_where_more_keep_theirs_in_all(self):
        # By 1 and a new one three records keep theirs, by 2 and 1 four.
        given = last(told_round([1, 2, 3, 6, 7], [4, 5]), told_round([1, 2, 3, 4, 5], [6, 7]))
        self.assertEqual(given, [2, 2, 2, 5, 1, 2, 3, 4, 5, 1, 2, 6, 7])

    def test_the_lower_number_gives_way_where_more_keep_theirs(self):
        given = last(told_round([1, 2, 5, 6], [3, 4]), told_round([1, 2, 3, 4], [5, 6]))
        self.assertEqual(given, [2, 2, 2, 4, 1, 2, 3, 4, 1, 2, 5, 6])

    def test_the_first_group_gives_way_where_more_keep_theirs(self):
        given = last(told_round([1, 2, 3]), told_round([1], [2, 3]))
        self.assertEqual(given, [2, 2, 2, 1, 1, 1, 2, 2, 3])

    def test_numbers_go_round_along_several_groups(self):
        # The first group leaves 1 to the second: by 1, a new one and 3 only three records keep theirs, not four.
        ahead = told_round([1, 3], [2, 5], [4, 6, 7])
        given = last(ahead, told_round([1, 2], [3, 4], [5, 6, 7]))
        self.assertEqual(given, [2, 3, 2, 2, 1, 2, 1, 2, 3, 4, 3, 3, 5, 6, 7])

    def test_records_count_and_not_groups(self):
        # By 2 and 1 both groups have a number that there was, but by 1 and a new one more records keep theirs.
        given = last(told_round([1, 2, 3, 4], [5]), told_round([1, 2, 3, 5], [4]))
        self.assertEqual(given, [2, 2, 1, 4, 1, 2, 3, 5, 3, 1, 4])


class OfSeveralWaysTheFirst(unittest.TestCase):
    def test_the_lower_number(self):
        self.assertEqual(last(told_round([1], [2]), told_round([1, 2])), [2, 1, 1, 2, 1, 2])

    def test_the_lower_number_and_not_the_first_group_ahead(self):
        # In the second round number 2 stands ahead of number 1.
        given = ask(told_round([5]), told_round([1], [5]), told_round([1, 5]), leads(2))
        self.assertEqual(given[1:], [[2, 2, 2, 1, 1, 1, 1, 5], [3, 1, 1, 2, 1, 5], [1]])

    def test_a_new_one_comes_last(self):
        self.assertEqual(last(told_round([1, 2]), told_round([1], [2])), [2, 2, 1, 1, 1, 2, 1, 2])

    def test_crosswise_the_first_group_has_the_lower(self):
        given = last(told_round([1, 3], [2, 4]), told_round([1, 2], [3, 4]))
        self.assertEqual(given, [2, 2, 1, 2, 1, 2, 2, 2, 3, 4])

    def test_the_first_group_decides_ahead_of_all_others(self):
        # 1, new, 2 and 2, 1, new and new, 1, 2 all keep two records.
        given = last(told_round([1, 3], [2, 4]), told_round([1, 2], [3], [4]))
        self.assertEqual(given, [2, 3, 1, 2, 1, 2, 3, 1, 3, 2, 1, 4])

    def test_a_later_group_decides_where_the_first_has_the_same(self):
        given = last(told_round([1, 2], [3, 5], [4]), told_round([1, 2], [3, 4], [5]))
        # 1, 3, 2 keeps four records, 1, 2, new only three.
        self.assertEqual(given, [2, 3, 1, 2, 1, 2, 3, 2, 3, 4, 2, 1, 5])
        given = last(told_round([1, 2], [3], [4]), told_round([1, 2], [3, 4]))
        self.assertEqual(given, [2, 2, 1, 2, 1, 2, 2, 2, 3, 4])

    def test_a_lower_number_at_the_first_group_beside_a_new_one_at_the_second(self):
        # 1, new and 2, 1 keep two records each.
        given = last(told_round([1, 2, 4], [3]), told_round([1, 2, 3], [4]))
        self.assertEqual(given, [2, 2, 1, 3, 1, 2, 3, 3, 1, 4])


if __name__ == "__main__":
    unittest.main()
