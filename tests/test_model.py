"""Many lines, made from fixed seeds, answered as the model answers them; and what the document says of all rounds."""

import random
import unittest

from numberskept.desk import answers
from tests.lines import BEGIN, COUNTS, SHOW, ask, begun, ended, hold, leads, let, of, raw_round, raw_would, split, was
from tests.model import Model


def some_round(dice, records, labels, most):
    told = []
    for record in dice.sample(range(1, records + 1), dice.randint(0, min(most, records))):
        told += [record, dice.randrange(labels)]
    return raw_round(told)


def wrong_round(dice):
    return raw_round([dice.choice((0, 1, 2, 3, 30, 31, 100, 101, 4294967295)) for each in range(dice.randint(0, 7))])


def some_call(dice, records, labels):
    kind = dice.randrange(12)
    if kind < 6:
        return some_round(dice, records, labels, 8)
    if kind == 6:
        return dice.choice((SHOW, SHOW, some_round(dice, records, labels, 9), BEGIN if dice.random() < 0.2 else SHOW))
    if kind == 7:
        return wrong_round(dice)
    if kind == 8:
        return of(dice.randint(0, records + 1))
    if kind == 9:
        return was(dice.randint(0, 12), dice.randint(0, records + 1))
    return leads(dice.randint(0, 12))


def as_would(call):
    return raw_would(call[2:])


def some_call_of_all(dice, records, labels, numbers):
    """A call of any kind; the last arguments tell how far records, labels and numbers go in most calls."""
    number = dice.choice((0, 4294967295)) if dice.random() < 0.03 else dice.randint(1, numbers)
    record = dice.choice((0, 31, 4294967295)) if dice.random() < 0.03 else dice.randint(1, records)
    which = dice.choice((0, 31, 4294967295)) if dice.random() < 0.03 else dice.randint(1, 15)
    told = wrong_round(dice) if dice.random() < 0.05 else some_round(dice, records, labels, 8)
    calls = [told] * 12 + [as_would(told)] * 6 + [hold(number, record)] * 8 + [let(number)] * 3
    calls += [leads(number), was(which, record), of(record), ended(which), begun(which)] * 2 + [SHOW, COUNTS]
    return BEGIN if dice.random() < 0.01 else dice.choice(calls)


class AsTheModel(unittest.TestCase):
    def check(self, calls):
        model = Model()
        expected = [model.answer(call) for call in calls]
        self.assertEqual(ask(*calls), expected, calls)

    def test_rounds_of_the_same_few_records(self):
        dice = random.Random(1)
        for each in range(60):
            labels = dice.randint(1, 4)
            self.check([some_call(dice, 8, labels) for every in range(30)])

    def test_eight_records_always_there(self):
        dice = random.Random(2)
        for each in range(40):
            rounds = []
            for every in range(6):
                told = [number for record in range(1, 9) for number in (record, dice.randrange(5))]
                rounds.append(raw_round(told))
            self.check(rounds + [leads(number) for number in range(0, 20)])

    def test_records_and_labels_of_all_kinds(self):
        dice = random.Random(3)
        for each in range(40):
            self.check([some_call(dice, 30, 101) for every in range(20)])

    def test_thirty_rounds_and_more(self):
        dice = random.Random(4)
        for each in range(5):
            rounds = [some_round(dice, 7, 3, 7) for every in range(31)]
            self.check(rounds + [leads(number) for number in range(1, 20)] + [was(which, 1) for which in range(20, 30)])


    def test_lines_of_sixty_calls_of_all_kinds(self):
        dice = random.Random(6)
        for each in range(300):
            records = dice.choice((4, 6, 8, 10, 30))
            labels = dice.randint(2, 6)
            numbers = dice.choice((4, 8, 20))
            self.check([some_call_of_all(dice, records, labels, numbers) for every in range(60)])

    def test_many_held_numbers_in_each_round(self):
        dice = random.Random(7)
        for each in range(150):
            calls = [some_round(dice, 8, 5, 8)]
            while len(calls) < 55:
                told = some_round(dice, 9, 5, 8)
                calls += [hold(dice.randint(1, len(calls) // 2 + 3), dice.randint(1, 9)) for every in range(3)]
                calls += [as_would(told), told]
            self.check(calls + [COUNTS, SHOW, ended(dice.randint(2, 11)), begun(dice.randint(2, 11))])

    def test_would_behind_thirty_rounds_with_held_numbers(self):
        dice = random.Random(8)
        for each in range(20):
            calls = [some_round(dice, 7, 3, 7) for every in range(31)]
            calls += [hold(dice.randint(1, 25), dice.randint(1, 7)) for every in range(9)]
            self.check(calls + [as_would(some_round(dice, 7, 4, 7)) for every in range(20)])


class OfAllRounds(unittest.TestCase):
    def test_no_number_is_given_to_two_nor_again_and_each_leads_to_one_that_is_there_or_nowhere(self):
        dice = random.Random(5)
        for each in range(40):
            rounds = [some_round(dice, 9, 4, 8) for every in range(15)]
            ever = []
            ahead = {}
            for part in split(answers([number for call in rounds for number in call])):
                now = numbers_of(part)
                for number in now:
                    self.assertTrue(number in ahead or number not in ever)
                for number, records in ahead.items():
                    if records in now.values():
                        self.assertEqual(now.get(number), records)
                ever += [number for number in now if number not in ever]
                ahead = now
            self.assertEqual(sorted(ever), list(range(1, len(ever) + 1)))
            for part in ask(*rounds, *[leads(number) for number in ever[:45]])[15:]:
                self.assertIn(part[0], [0] + list(ahead))


    def test_with_held_numbers_none_is_given_to_two_nor_again_and_each_leads_to_one_that_is_there_or_nowhere(self):
        dice = random.Random(9)
        for each in range(60):
            calls = []
            for every in range(10):
                calls += [some_round(dice, 9, 4, 8), hold(dice.randint(1, 9), dice.randint(1, 9))]
            ever = []
            ahead = {}
            for part in ask(*calls)[::2]:
                now = numbers_of(part)
                self.assertEqual([number for number in now if number in ever and number not in ahead], [])
                ever += [number for number in now if number not in ever]
                ahead = now
            self.assertEqual(sorted(ever), list(range(1, len(ever) + 1)))
            for part in ask(*calls, *[leads(number) for number in ever[:40]])[20:]:
                self.assertIn(part[0], [0] + list(ahead))

    def test_where_no_held_number_counts_all_is_as_without_them(self):
        dice = random.Random(10)
        for each in range(60):
            rounds = [some_round(dice, 9, 4, 8) for every in range(12)]
            plain = ask(*rounds)
            # None of the rounds tells the records 20 to 30.
            calls = []
            for call in rounds:
                calls += [call, hold(dice.randint(1, 9), dice.randint(20, 30))]
            self.assertEqual(ask(*calls)[::2], plain)


def numbers_of(part):
    groups = {}
    place = 2
    while place < len(part):
        number, size = part[place:place + 2]
        assert number not in groups, part
        groups[number] = part[place + 2:place + 2 + size]
        place += 2 + size
    assert len(groups) == part[1], part
    return groups


if __name__ == "__main__":
    unittest.main()
