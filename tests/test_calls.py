"""What show, of, leads, was and begin answer."""

import unittest

from tests.lines import BEGIN, SHOW, ask, last, leads, of, told_round, was

HIGHEST = 4294967295


class Show(unittest.TestCase):
    def test_before_any_round(self):
        self.assertEqual(ask(SHOW), [[0]])

    def test_tells_the_last_round_without_its_number(self):
        given = ask(told_round([2], [1, 3]), SHOW, told_round([3, 4]), SHOW, SHOW)
        self.assertEqual(given[1], [2, 1, 2, 1, 3, 2, 1, 2])
        self.assertEqual(given[3:], [[1, 1, 2, 3, 4]] * 2)


class Of(unittest.TestCase):
    def test_before_any_round(self):
        self.assertEqual(ask(of(1), of(0), of(HIGHEST)), [[0]] * 3)

    def test_the_number_in_the_last_round(self):
        given = ask(told_round([1, 30], [2]), of(1), of(2), of(30), told_round([2, 30]), of(1), of(2), of(30))
        self.assertEqual(given[1:4], [[1], [2], [1]])
        self.assertEqual(given[5:], [[0], [1], [1]])

    def test_a_record_that_is_not_there(self):
        self.assertEqual(ask(told_round([1]), of(0), of(2), of(31), of(HIGHEST))[1:], [[0]] * 4)


class Leads(unittest.TestCase):
    def test_never_given(self):
        self.assertEqual(ask(leads(0), leads(1), leads(HIGHEST)), [[-3]] * 3)
        given = ask(told_round([1], [2]), leads(0), leads(2), leads(3), leads(HIGHEST))
        self.assertEqual(given[1:], [[-3], [2], [-3], [-3]])

    def test_to_itself_if_it_is_there(self):
        self.assertEqual(ask(told_round([1], [2]), leads(1), leads(2))[1:], [[1], [2]])

    def test_through_several_steps(self):
        rounds = [told_round([1], [2, 3], [4, 5, 6]), told_round([1, 2, 3], [4, 5, 6]), told_round([1, 2, 3, 4, 5, 6])]
        self.assertEqual(ask(*rounds[:2], leads(1), leads(2), leads(3))[2:], [[2], [2], [3]])
        # In the last round both have three records in it: the lower number stays.
        self.assertEqual(ask(*rounds, leads(1), leads(2), leads(3))[3:], [[2], [2], [2]])

    def test_through_three_steps(self):
        rounds = [told_round([1], [2, 3]), told_round([1, 2, 3], [4, 5, 6, 7]), told_round([1, 2, 3, 4, 5, 6, 7]),
                  told_round([7], [8, 9, 10, 11]), told_round([7, 8, 9, 10, 11])]
        given = ask(*rounds, leads(1), leads(2), leads(3), leads(4), leads(5))
        self.assertEqual(given[4], [5, 1, 4, 5, 7, 8, 9, 10, 11])
        self.assertEqual(given[5:], [[4], [4], [4], [4], [-3]])
        self.assertEqual(ask(*rounds[:4], leads(1), leads(2), leads(3))[4:], [[3], [3], [3]])

    def test_nowhere(self):
        given = ask(told_round([1], [2]), told_round([2]), leads(1), leads(2))
        self.assertEqual(given[2:], [[0], [2]])

    def test_nowhere_behind_a_step(self):
        given = ask(told_round([1], [2, 3]), told_round([1, 2, 3]), told_round(), leads(1), leads(2))
        self.assertEqual(given[3:], [[0], [0]])

    def test_what_led_nowhere_stays_so_when_the_records_come_again(self):
        given = ask(told_round([1]), told_round(), told_round([1]), leads(1), leads(2))
        self.assertEqual(given[3:], [[0], [2]])

    def test_to_the_group_with_most_of_its_records(self):
        given = ask(told_round([1, 2], [3, 4, 5], [6, 7, 8]), told_round([1, 2, 3], [4, 5, 6, 7, 8]), leads(2))
        self.assertEqual(given[1:], [[2, 2, 1, 3, 1, 2, 3, 3, 5, 4, 5, 6, 7, 8], [3]])

    def test_of_several_to_the_first_group_and_not_to_the_lower_number(self):
        rounds = [told_round([6, 7, 8]), told_round([1, 2, 3], [4, 5], [6, 7, 8]),
                  told_round([1, 2, 3, 4], [5, 6, 7, 8])]
        given = ask(*rounds, leads(1), leads(2), leads(3))
        self.assertEqual(given[2:], [[3, 2, 2, 4, 1, 2, 3, 4, 1, 4, 5, 6, 7, 8], [1], [2], [2]])

    def test_where_it_led_counts_and_not_where_its_records_are_now(self):
        given = ask(told_round([1], [2, 3]), told_round([1, 2, 3]), told_round([1], [2, 3]), leads(1))
        self.assertEqual(given[2:], [[3, 2, 3, 1, 1, 2, 2, 2, 3], [2]])


class Was(unittest.TestCase):
    def test_each_round(self):
        rounds = [told_round([1, 2], [3]), told_round([1], [2, 3, 4]), told_round()]
        given = ask(*rounds, *[was(which, record) for which in (1, 2, 3) for record in (1, 2, 3, 4)])
        self.assertEqual(given[3:], [[1], [1], [2], [0], [1], [2], [2], [2], [0], [0], [0], [0]])

    def test_no_such_round(self):
        self.assertEqual(ask(was(0, 1), was(1, 1)), [[-3], [-3]])
        given = ask(told_round([1]), was(0, 1), was(1, 1), was(2, 1), was(HIGHEST, 1), was(HIGHEST, HIGHEST))
        self.assertEqual(given[1:], [[-3], [1], [-3], [-3], [-3]])

    def test_a_record_that_was_not_told(self):
        given = ask(told_round([1]), was(1, 0), was(1, 2), was(1, 31), was(1, HIGHEST))
        self.assertEqual(given[1:], [[0]] * 4)

    def test_the_thirtieth_round(self):
        given = ask(*[told_round([which]) for which in range(1, 31)], was(30, 30), was(29, 29), was(31, 30))
        self.assertEqual(given[30:], [[30], [29], [-3]])


class Begin(unittest.TestCase):
    def test_first(self):
        self.assertEqual(ask(BEGIN, BEGIN, SHOW, told_round([4])), [[0], [0], [0], [1, 1, 1, 1, 4]])

    def test_again_all_is_as_at_the_beginning(self):
        given = ask(told_round([1], [2]), told_round([2]), BEGIN, SHOW, of(2), leads(1), leads(2), was(1, 1), was(2, 2))
        self.assertEqual(given[2:], [[0], [0], [0], [-3], [-3], [-3], [-3]])

    def test_again_numbers_and_rounds_begin_at_1(self):
        given = ask(told_round([1], [2, 3]), told_round([1, 2, 3]), BEGIN, told_round([2], [3]), leads(1), was(1, 1))
        self.assertEqual(given[3:], [[1, 2, 1, 1, 2, 2, 1, 3], [1], [0]])

    def test_again_behind_thirty_rounds(self):
        self.assertEqual(last(*[told_round([1])] * 30, BEGIN, told_round([1])), [1, 1, 1, 1, 1])


if __name__ == "__main__":
    unittest.main()
