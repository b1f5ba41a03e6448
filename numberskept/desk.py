"""The desk: what its calls answer, and how the calls stand in one list."""

from numberskept.rounds import NEW, best_way, can_be_told, groups_in_numbers, groups_told, how_many_keep_theirs
from numberskept.rounds import is_a_record, number_of, where_it_led

BEGIN = 0
ROUND = 1
SHOW = 2
OF = 3
LEADS = 4
WAS = 5
ENDED = 6
BEGUN = 7
HOLD = 8
LET = 9
WOULD = 10

# By the calls' numbers. Round and would are not among them, for their rows tell their own lengths.
NUMBERS_BEHIND = {0: 0, 2: 0, 3: 1, 4: 1, 5: 2, 6: 1, 7: 1, 8: 2, 9: 1, 11: 0}

MOST_ROUNDS = 30


# Each call gives back the list of the numbers that it answers; a refusal is one number below 0.
class Desk:
    def __init__(self):
        self.begin()

    def begin(self):
        self.rounds = []
        self.led = {}
        self.held = {}
        self.next_number = 1
        return [0]

    def take_round(self, told):
        if not can_be_told(told):
            return [-1]
        if len(self.rounds) == MOST_ROUNDS:
            return [-6]
        ahead = self.last_round()
        now = self.give_numbers(groups_told(told), ahead)
        for number, records in ahead.items():
            if number not in now:
                self.led[number] = where_it_led(records, now)
        self.rounds.append(now)
        return [len(self.rounds)] + groups_in_numbers(now)

    def give_numbers(self, groups, ahead):
        now = {}
        way = best_way(groups, ahead, self.held)
        for number, records in zip(way, groups):
            if number == NEW:
                now[self.next_number] = records
                self.next_number += 1
            else:
                now[number] = records
        return now

    # Ahead of the first round there are no groups.
    def groups_of(self, which):
        if which == 0:
            return {}
        return self.rounds[which - 1]

    def last_round(self):
        return self.groups_of(len(self.rounds))

    def there_was(self, which):
        return which >= 1 and which <= len(self.rounds)

    def was_given(self, number):
        return number >= 1 and number < self.next_number

    def show(self):
        return groups_in_numbers(self.last_round())

    def of(self, record):
        return [number_of(record, self.last_round())]

    def leads(self, number):
        if not self.was_given(number):
            return [-3]
        there = number
        # This ends: each step goes to a number that was there in a later round, and 0 never led anywhere.
        while there in self.led:
            there = self.led[there]
        return [there]

    def was(self, which, record):
        if not self.there_was(which):
            return [-3]
        return [number_of(record, self.groups_of(which))]

    def ended(self, which):
        if not self.there_was(which):
            return [-3]
        now = self.groups_of(which)
        gone = [number for number in self.groups_of(which - 1) if number not in now]
        told = [len(gone)]
        for number in gone:
            told.append(number)
            # A number ends once, so that what is kept of it is of this round.
            told.append(self.led[number])
        return told

    def begun(self, which):
        if not self.there_was(which):
            return [-3]
        ahead = self.groups_of(which - 1)
        # No number is given again, so that one that wasn't there ahead is new.
        fresh = [number for number in self.groups_of(which) if number not in ahead]
        return [len(fresh)] + sorted(fresh)

    def hold(self, number, record):
        if not self.was_given(number):
            return [-3]
        if not is_a_record(record):
            return [-1]
        before = self.held.get(number, 0)
        self.held[number] = record
        return [before]

    def let(self, number):
        if number not in self.held:
            return [-3]
        self.held.pop(number)
        return [len(self.held)]

    def would(self, told):
        if not can_be_told(told):
            return [-1]
        groups = groups_told(told)
        ahead = self.last_round()
        way = best_way(groups, ahead, self.held)
        # NEW is 0, just as a new number is to be told here.
        return [how_many_keep_theirs(way, groups, ahead), len(way)] + way

    def counts(self):
        return [len(self.rounds), self.next_number, len(self.led), len(self.held)]


def end_of_call(calls, start):
    if calls[start] == ROUND or calls[start] == WOULD:
        return start + 2 + calls[start + 1]
    return start + 1 + NUMBERS_BEHIND[calls[start]]


def answer_of(desk, call):
    kind = call[0]
    if kind == BEGIN:
        return desk.begin()
    if kind == ROUND:
        return desk.take_round(call[2:])
    if kind == SHOW:
        return desk.show()
    if kind == OF:
        return desk.of(call[1])
    if kind == LEADS:
        return desk.leads(call[1])
    if kind == WAS:
        return desk.was(call[1], call[2])
    if kind == ENDED:
        return desk.ended(call[1])
    if kind == BEGUN:
        return desk.begun(call[1])
    if kind == HOLD:
        return desk.hold(call[1], call[2])
    if kind == LET:
        return desk.let(call[1])
    if kind == WOULD:
        return desk.would(call[2:])
    # Only counts is left: a call that is not known has no length, and does not come this far.
    return desk.counts()


def answers(calls):
    desk = Desk()
    given = []
    start = 0
    while start < len(calls):
        end = end_of_call(calls, start)
        answer = answer_of(desk, calls[start:end])
        given.append(len(answer))
        given.extend(answer)
        start = end
    return given
