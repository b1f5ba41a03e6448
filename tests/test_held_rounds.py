"""Which numbers groups get where numbers are held."""

import unittest

from tests.lines import COUNTS, ask, ended, hold, last, leads, let, told_round, told_would

# 1 has the records 1, 2 and 3; 2 has 4 and 5; 3 has 6.
AHEAD = told_round([1, 2, 3], [4, 5], [6])


class GoesToItsRecord(unittest.TestCase):
    def test_to_a_group_with_fewer_of_its_records(self):
        given = ask(AHEAD, hold(1, 3), told_round([1, 2], [3]), leads(1))
        self.assertEqual(given[2:], [[2, 2, 4, 2, 1, 2, 1, 1, 3], [1]])

    def test_to_a_group_that_has_no_record_of_its_group(self):
        given = ask(AHEAD, hold(1, 6), told_round([1, 2, 3], [4, 5], [6]), ended(2), leads(3))
        self.assertEqual(given[2:], [[2, 3, 4, 3, 1, 2, 3, 2, 2, 4, 5, 1, 1, 6], [1, 3, 1], [1]])

    def test_to_a_group_of_records_that_were_not_there_ahead(self):
        given = ask(AHEAD, hold(2, 30), told_round([4, 5], [30]), ended(2), COUNTS)
        self.assertEqual(given[2:], [[2, 2, 4, 2, 4, 5, 2, 1, 30], [2, 1, 0, 3, 0], [2, 5, 2, 1]])

    def test_where_all_its_records_are_gone(self):
        self.assertEqual(last(AHEAD, hold(3, 9), told_round([9], [10])), [2, 2, 3, 1, 9, 4, 1, 10])

    def test_where_fewer_records_keep_theirs_by_it(self):
        # The group of 1, 2 and 3 may have 3 alone: these three don't keep theirs, and 6 doesn't either.
        given = ask(AHEAD, hold(3, 1), told_would([1, 2, 3], [4, 5], [6]), told_round([1, 2, 3], [4, 5], [6]))
        self.assertEqual(given[2:], [[2, 3, 3, 2, 0], [2, 3, 3, 3, 1, 2, 3, 2, 2, 4, 5, 4, 1, 6]])

    def test_the_number_it_would_have_goes_to_another_group_with_its_records(self):
        # The group of 1 and 2 has 3, so that 1 is left to the group of 3 alone.
        given = ask(AHEAD, hold(3, 1), told_round([1, 2], [3], [6]), ended(2))
        self.assertEqual(given[2:], [[2, 3, 3, 2, 1, 2, 1, 1, 3, 4, 1, 6], [1, 2, 0]])

    def test_another_group_does_not_get_it_though_it_has_most_of_its_records(self):
        given = last(AHEAD, hold(1, 5), told_round([1, 2, 3], [4, 5]))
        self.assertEqual(given, [2, 2, 4, 3, 1, 2, 3, 1, 2, 4, 5])

    def test_two_groups_change_their_numbers(self):
        given = ask(AHEAD, hold(1, 5), hold(2, 1), told_would([1, 2, 3], [4, 5], [6]), told_round([1, 2, 3], [4, 5], [6]))
        self.assertEqual(given[3:], [[1, 3, 2, 1, 3], [2, 3, 2, 3, 1, 2, 3, 1, 2, 4, 5, 3, 1, 6]])

    def test_held_to_a_record_of_its_own_group(self):
        # By 1 as many records keep theirs as by 2: the held one goes there, though it isn't the lower.
        given = ask(told_round([1], [2]), hold(2, 2), told_round([1, 2]), leads(1))
        self.assertEqual(given[2:], [[2, 1, 2, 2, 1, 2], [2]])

    def test_all_others_are_given_as_without_held_numbers(self):
        given = last(told_round([1, 3], [2, 4], [5, 6]), hold(3, 6), told_round([1, 2], [3, 4], [5], [6]))
        self.assertEqual(given, [2, 4, 1, 2, 1, 2, 2, 2, 3, 4, 4, 1, 5, 3, 1, 6])


class SeveralOfOneGroup(unittest.TestCase):
    def test_the_lowest_alone(self):
        given = ask(AHEAD, hold(3, 4), hold(2, 5), told_round([4, 5], [6]), ended(2))
        self.assertEqual(given[3:], [[2, 2, 2, 2, 4, 5, 4, 1, 6], [2, 1, 0, 3, 4]])

    def test_the_order_in_which_they_were_held_does_not_count(self):
        for holds in ([hold(1, 6), hold(3, 4)], [hold(3, 4), hold(1, 6)]):
            given = last(AHEAD, *holds, told_round([1, 2, 3], [4, 6]))
            self.assertEqual(given, [2, 2, 4, 3, 1, 2, 3, 1, 2, 4, 6])

    def test_the_lowest_though_another_has_more_records_there(self):
        given = ask(AHEAD, hold(1, 3), hold(3, 5), hold(2, 4), told_round([3, 4, 5], [6], [1, 2]), ended(2))
        # 3 goes to no group, not to that of its one record either.
        self.assertEqual(given[4:], [[2, 3, 4, 2, 1, 2, 1, 3, 3, 4, 5, 5, 1, 6], [2, 2, 1, 3, 5]])

    def test_three_to_one_record(self):
        given = ask(AHEAD, hold(1, 20), hold(2, 20), hold(3, 20), told_round([1, 2, 3], [4, 5], [6], [20]), COUNTS)
        self.assertEqual(given[4:], [[2, 4, 4, 3, 1, 2, 3, 5, 2, 4, 5, 6, 1, 6, 1, 1, 20], [2, 7, 2, 3]])

    def test_two_to_one_record_that_is_in_the_group_of_the_higher(self):
        given = ask(AHEAD, hold(3, 6), hold(2, 6), told_round([4, 5], [6]), ended(2), leads(3))
        self.assertEqual(given[3:], [[2, 2, 4, 2, 4, 5, 2, 1, 6], [2, 1, 0, 3, 2], [2]])

    def test_one_that_does_not_count_is_not_the_lowest(self):
        # 1 has ended: of 1 and 3, both held to 6, 3 is the lowest that counts.
        given = last(AHEAD, told_round([4, 5], [6]), hold(1, 6), hold(3, 6), told_round([4, 5, 6]))
        self.assertEqual(given, [3, 1, 3, 3, 4, 5, 6])


class DoesNotCount(unittest.TestCase):
    def test_a_record_that_is_not_told(self):
        for record in (6, 7, 30):
            rounds = [told_round([1, 2], [3], [4, 5])]
            self.assertEqual(last(AHEAD, hold(1, record), *rounds), last(AHEAD, *rounds))

    def test_its_own_record_that_is_not_told(self):
        # 1 is held to 1, and 1 is gone: the group of 2 and 3 may have its number.
        self.assertEqual(last(AHEAD, hold(1, 1), told_round([2, 3])), [2, 1, 1, 2, 2, 3])

    def test_it_counts_again_when_its_record_is_told_again(self):
        given = ask(AHEAD, hold(1, 6), told_round([1, 2, 3]), told_round([1, 2, 3], [6]))
        self.assertEqual(given[2:], [[2, 1, 1, 3, 1, 2, 3], [3, 2, 4, 3, 1, 2, 3, 1, 1, 6]])

    def test_a_number_that_ended(self):
        given = ask(AHEAD, told_round([1], [2]), hold(3, 1), hold(2, 2), told_round([1], [2]), leads(2), leads(3))
        self.assertEqual(given[4:], [[3, 2, 1, 1, 1, 4, 1, 2], [0], [0]])

    def test_a_number_that_ended_beside_one_that_is_there(self):
        given = last(AHEAD, told_round([1], [4]), hold(3, 4), hold(1, 4), told_round([1], [4]))
        self.assertEqual(given, [3, 2, 4, 1, 1, 1, 1, 4])

    def test_of_one_group_that_whose_record_is_told(self):
        given = last(AHEAD, hold(1, 30), hold(3, 5), told_round([4, 5], [1, 2]))
        self.assertEqual(given, [2, 2, 1, 2, 1, 2, 3, 2, 4, 5])

    def test_an_empty_round(self):
        given = ask(AHEAD, hold(1, 6), told_round(), told_round([6]), COUNTS)
        self.assertEqual(given[2:], [[2, 0], [3, 1, 4, 1, 6], [3, 5, 3, 1]])


class StaysHeld(unittest.TestCase):
    def test_behind_rounds(self):
        rounds = [told_round([1, 2], [6]), told_round([1, 2, 6]), told_round([1], [2, 6]), told_round([2], [6])]
        given = ask(AHEAD, hold(1, 6), *rounds, COUNTS, hold(1, 6))
        self.assertEqual(given[2:], [[2, 2, 4, 2, 1, 2, 1, 1, 6], [3, 1, 1, 3, 1, 2, 6],
                                     [4, 2, 5, 1, 1, 1, 2, 2, 6], [5, 2, 6, 1, 2, 1, 1, 6], [5, 7, 4, 1], [6]])

    def test_when_it_ends(self):
        given = ask(AHEAD, hold(1, 6), hold(2, 6), told_round([6]), COUNTS, hold(2, 7), let(2), hold(1, 8), told_round([6]))
        self.assertEqual(given[3:], [[2, 1, 1, 1, 6], [2, 4, 2, 2], [6], [1], [6], [3, 1, 1, 1, 6]])

    def test_until_it_is_held_to_another_record(self):
        given = ask(AHEAD, hold(1, 6), hold(1, 5), told_round([1, 2, 3], [4, 5], [6]))
        self.assertEqual(given[3], [2, 3, 4, 3, 1, 2, 3, 1, 2, 4, 5, 3, 1, 6])

    def test_until_it_is_let(self):
        given = last(AHEAD, hold(1, 6), let(1), told_round([1, 2, 3], [4, 5], [6]))
        self.assertEqual(given, [2, 3, 1, 3, 1, 2, 3, 2, 2, 4, 5, 3, 1, 6])


class WhereTheyLed(unittest.TestCase):
    def test_a_number_whose_group_stays_but_gets_a_held_one(self):
        given = ask(AHEAD, hold(1, 6), told_round([6], [4, 5]), ended(2), leads(3))
        self.assertEqual(given[2:], [[2, 2, 2, 2, 4, 5, 1, 1, 6], [1, 3, 1], [1]])

    def test_a_held_number_that_none_gets_leads_by_its_records(self):
        # 3 is held to 4, where 2 is too: it led to the group of its record 6, not to that of 4.
        given = ask(AHEAD, hold(2, 4), hold(3, 4), told_round([4], [6, 1]), ended(2), leads(3))
        self.assertEqual(given[3:], [[2, 2, 1, 2, 1, 6, 2, 1, 4], [1, 3, 1], [1]])


if __name__ == "__main__":
    unittest.main()
