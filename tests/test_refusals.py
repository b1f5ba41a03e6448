"""When round and would are refused, and that all is as it was then."""

import unittest

from tests.lines import COUNTS, SHOW, ask, begun, ended, hold, leads, of, raw_round, raw_would, told_round, told_would
from tests.lines import was

HIGHEST = 4294967295


def labelled(records, label=1):
    return [number for record in records for number in (record, label)]


class Refused(unittest.TestCase):
    def check_refused(self, told):
        for refused in (raw_round(told), raw_would(told)):
            self.assertEqual(ask(refused), [[-1]])
            self.check_all_is_as_it_was(refused)

    def check_all_is_as_it_was(self, refused):
        ahead = [told_round([1, 2], [3]), told_round([1, 2, 3], [4]), hold(1, 4), hold(2, 9)]
        look = [SHOW, of(1), of(3), of(4), leads(1), leads(2), leads(3), leads(4), was(1, 3), was(2, 3), was(3, 3),
                ended(2), begun(2), ended(3), begun(3), told_would([1, 2, 3], [4], [5]), COUNTS]
        behind = [told_round([1, 5], [2, 3], [4]), SHOW, COUNTS]
        given = ask(*ahead, *look, refused, *look, *behind)
        kept = ask(*ahead, *look, *behind)
        self.assertEqual(given[21], [-1])
        self.assertEqual(given[22:39], given[4:21])
        self.assertEqual(given[39:], kept[21:])

    def check_taken(self, told, groups):
        self.assertEqual(ask(raw_would(told), raw_round(told)), [[0, groups[0]] + [0] * groups[0], [1] + groups])

    def test_a_record_without_a_label(self):
        self.check_refused([1])
        self.check_refused([1, 1, 2])
        self.check_refused(labelled(range(1, 8)) + [8])

    def test_more_than_eight_records(self):
        self.check_taken(labelled(range(1, 9)), [1, 1, 8, 1, 2, 3, 4, 5, 6, 7, 8])
        self.check_refused(labelled(range(1, 10)))
        self.check_refused(labelled(range(1, 21)))
        self.check_refused(labelled(range(1, 9)) + [9])

    def test_a_record_0(self):
        self.check_taken([1, 1], [1, 1, 1, 1])
        self.check_refused([0, 1])
        self.check_refused([1, 1, 0, 1])

    def test_a_record_above_30(self):
        self.check_taken([30, 1], [1, 1, 1, 30])
        self.check_refused([31, 1])
        self.check_refused([1, 1, 31, 1])
        self.check_refused([HIGHEST, 1])

    def test_a_record_that_comes_twice(self):
        self.check_refused([5, 1, 5, 1])
        self.check_refused([5, 1, 6, 1, 5, 2])

    def test_a_label_above_100(self):
        self.check_taken([1, 100, 2, 0], [2, 1, 1, 1, 2, 1, 2])
        self.check_refused([1, 101])
        self.check_refused([1, 100, 2, 101])
        self.check_refused([1, HIGHEST])

    def test_more_than_six_groups(self):
        six = [1, 0, 2, 1, 3, 2, 4, 3, 5, 4, 6, 5]
        self.check_taken(six, [6, 1, 1, 1, 2, 1, 2, 3, 1, 3, 4, 1, 4, 5, 1, 5, 6, 1, 6])
        self.check_taken(six + [7, 5, 8, 0], [6, 1, 2, 1, 8, 2, 1, 2, 3, 1, 3, 4, 1, 4, 5, 1, 5, 6, 2, 6, 7])
        self.check_refused(six + [7, 6])

    def test_a_record_and_its_label_may_be_alike(self):
        self.check_taken([7, 7, 8, 8], [2, 1, 1, 7, 2, 1, 8])


class ThirtyRounds(unittest.TestCase):
    def test_the_thirtieth_is_taken_and_the_next_refused(self):
        given = ask(*[told_round([1])] * 30, told_round([1]), told_round(), SHOW)
        self.assertEqual(given[28:], [[29, 1, 1, 1, 1], [30, 1, 1, 1, 1], [-6], [-6], [1, 1, 1, 1]])

    def test_empty_rounds_count(self):
        self.assertEqual(ask(*[told_round()] * 31)[29:], [[30, 0], [-6]])

    def test_refused_rounds_do_not_count(self):
        given = ask(*[told_round()] * 29, raw_round([1]), raw_round([1]), told_round(), told_round())
        self.assertEqual(given[29:], [[-1], [-1], [30, 0], [-6]])

    def test_of_both_the_one_told_first(self):
        wrong = [[1], labelled(range(1, 10)), [0, 1], [31, 1], [2, 1, 2, 1], [1, 101], [1, 0, 2, 1, 3, 2, 4, 3, 5, 4, 6, 5, 7, 6]]
        given = ask(*[told_round()] * 30, *[raw_round(told) for told in wrong], *[raw_would(told) for told in wrong])
        self.assertEqual(given[30:], [[-1]] * len(wrong) * 2)

    def test_all_is_as_it_was(self):
        look = [SHOW, of(1), of(2), leads(1), leads(2), leads(3), was(30, 1), was(31, 1), ended(30), begun(31), COUNTS]
        given = ask(*[told_round([1], [3])] * 30, hold(2, 1), *look, told_round([1, 2]), *look)
        self.assertEqual(given[42], [-6])
        self.assertEqual(given[43:], given[31:42])


if __name__ == "__main__":
    unittest.main()
