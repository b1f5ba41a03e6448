"""What hold and let answer, and what is held then."""

import unittest

from tests.lines import BEGIN, COUNTS, SHOW, ask, hold, leads, let, of, told_round, told_would, was

HIGHEST = 4294967295

# Behind these rounds 1 has ended, 2 and 3 are there, 4 was never given.
ROUNDS = [told_round([1], [2, 3]), told_round([1, 2, 3], [4])]


class Hold(unittest.TestCase):
    def test_first_to_the_same_record_and_to_another(self):
        given = ask(*ROUNDS, hold(2, 4), hold(2, 4), hold(2, 30), hold(2, 1), hold(2, 5), COUNTS)
        self.assertEqual(given[2:], [[0], [4], [4], [30], [1], [2, 4, 1, 1]])

    def test_each_number_has_a_record_of_its_own(self):
        given = ask(*ROUNDS, hold(2, 4), hold(3, 5), hold(2, 6), hold(3, 7), COUNTS)
        self.assertEqual(given[2:], [[0], [0], [4], [5], [2, 4, 1, 2]])

    def test_two_numbers_to_the_same_record(self):
        given = ask(*ROUNDS, hold(2, 4), hold(3, 4), hold(2, 4), hold(3, 4), COUNTS)
        self.assertEqual(given[2:], [[0], [0], [4], [4], [2, 4, 1, 2]])

    def test_a_number_that_ended(self):
        given = ask(*ROUNDS, hold(1, 9), hold(1, 8), COUNTS)
        self.assertEqual(given[2:], [[0], [9], [2, 4, 1, 1]])

    def test_records_at_the_edges(self):
        self.assertEqual(ask(*ROUNDS, hold(2, 1), hold(2, 30), hold(2, 2))[2:], [[0], [1], [30]])

    def test_a_record_that_was_never_told(self):
        self.assertEqual(ask(*ROUNDS, hold(2, 29), hold(2, 29))[2:], [[0], [29]])

    def test_a_number_that_was_never_given(self):
        self.assertEqual(ask(hold(0, 1), hold(1, 1), hold(HIGHEST, 1), COUNTS), [[-3]] * 3 + [[0, 1, 0, 0]])
        given = ask(*ROUNDS, hold(0, 1), hold(3, 1), hold(4, 1), hold(HIGHEST, 1), COUNTS)
        self.assertEqual(given[2:], [[-3], [0], [-3], [-3], [2, 4, 1, 1]])

    def test_what_is_not_a_record(self):
        given = ask(*ROUNDS, hold(2, 0), hold(2, 31), hold(2, HIGHEST), hold(1, 0), COUNTS)
        self.assertEqual(given[2:], [[-1]] * 4 + [[2, 4, 1, 0]])

    def test_of_both_the_one_told_first(self):
        given = ask(*ROUNDS, hold(0, 0), hold(4, 31), hold(HIGHEST, HIGHEST), hold(0, 31))
        self.assertEqual(given[2:], [[-3]] * 4)
        self.assertEqual(ask(hold(1, 0), hold(1, 31)), [[-3]] * 2)

    def test_after_a_refusal_nothing_is_held_otherwise(self):
        wrong = [hold(2, 0), hold(2, 31), hold(2, HIGHEST), hold(0, 4), hold(4, 4), hold(3, 31)]
        look = [COUNTS, SHOW, of(1), leads(1), leads(2), leads(4), was(2, 4), told_would([1, 2], [4], [5])]
        given = ask(*ROUNDS, hold(2, 4), *look, *wrong, *look, hold(2, 7), let(3), let(4), let(0), let(2))
        self.assertEqual(given[11:17], [[-1], [-1], [-1], [-3], [-3], [-1]])
        self.assertEqual(given[17:25], given[3:11])
        self.assertEqual(given[25:], [[4], [-3], [-3], [-3], [0]])

    def test_nothing_but_what_is_held_changes(self):
        look = [SHOW, of(1), of(4), leads(1), leads(2), leads(3), leads(4), was(1, 1), was(2, 1)]
        given = ask(*ROUNDS, *look, hold(2, 4), hold(1, 4), *look, let(2), *look)
        self.assertEqual(given[13:22], given[2:11])
        self.assertEqual(given[23:], given[2:11])


class Let(unittest.TestCase):
    def test_how_many_are_held_then(self):
        given = ask(*ROUNDS, hold(1, 5), hold(2, 5), hold(3, 6), let(2), let(3), let(1), COUNTS)
        self.assertEqual(given[5:], [[2], [1], [0], [2, 4, 1, 0]])

    def test_a_number_that_is_not_held(self):
        given = ask(*ROUNDS, let(2), hold(3, 2), let(2), let(1), COUNTS)
        self.assertEqual(given[2:], [[-3], [0], [-3], [-3], [2, 4, 1, 1]])

    def test_a_number_that_was_let_before(self):
        given = ask(*ROUNDS, hold(2, 4), hold(3, 4), let(2), let(2), COUNTS, hold(3, 5))
        self.assertEqual(given[4:], [[1], [-3], [2, 4, 1, 1], [4]])

    def test_a_number_that_was_never_given(self):
        self.assertEqual(ask(let(0), let(1), let(HIGHEST)), [[-3]] * 3)
        self.assertEqual(ask(*ROUNDS, hold(2, 4), let(0), let(4), let(HIGHEST))[3:], [[-3]] * 3)

    def test_held_anew_behind_it(self):
        given = ask(*ROUNDS, hold(2, 4), let(2), hold(2, 5), hold(2, 6), let(2), let(2))
        self.assertEqual(given[2:], [[0], [0], [0], [5], [0], [-3]])

    def test_a_number_that_was_let_does_not_count(self):
        given = ask(*ROUNDS, hold(2, 4), told_would([1, 2, 3], [4]), let(2), told_would([1, 2, 3], [4]))
        self.assertEqual(given[3:], [[0, 2, 0, 2], [0], [4, 2, 2, 3]])


class BeginBehindAll(unittest.TestCase):
    def test_nothing_is_held(self):
        given = ask(*ROUNDS, hold(1, 4), hold(2, 4), BEGIN, COUNTS, let(1), let(2), hold(1, 4), *ROUNDS, COUNTS, hold(2, 4))
        self.assertEqual(given[4:9], [[0], [0, 1, 0, 0], [-3], [-3], [-3]])
        self.assertEqual(given[9:11], ask(*ROUNDS))
        self.assertEqual(given[11:], [[2, 4, 1, 0], [0]])


if __name__ == "__main__":
    unittest.main()
