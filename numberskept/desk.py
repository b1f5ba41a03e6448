"""The desk: what its calls answer, and how the calls stand in one list."""

from numberskept.rounds import NEW, best_way, can_be_told, groups_in_numbers, groups_told, number_of, where_it_led

BEGIN = 0
ROUND = 1
SHOW = 2
OF = 3
LEADS = 4

# By the calls' numbers: begin, show, of, leads, was. Round is not among them, for its row tells its own length.
NUMBERS_BEHIND = {0: 0, 2: 0, 3: 1, 4: 1, 5: 2}

MOST_ROUNDS = 30


# Each call gives back the list of the numbers that it answers; a refusal is one number below 0.
class Desk:
    def __init__(self):
        self.begin()

    def begin(self):
        self.rounds = []
        self.led = {}
        self.next_number = 1
        return [0]

    def take_round(self, told):
        if not can_be_told(told):
            return [-1]
        if len(self.rounds) == MOST_ROUNDS:
            return [-6]
        ahead = self.last_round()
        now = self.give_numbers(groups_told(told), ahead)
        for number, records in ahead.items():
            if number not in now:
                self.led[number] = where_it_led(records, now)
        self.rounds.append(now)
        return [len(self.rounds)] + groups_in_numbers(now)

    def give_numbers(self, groups, ahead):
        now = {}
        for number, records in zip(best_way(groups, ahead), groups):
            if number == NEW:
                now[self.next_number] = records
                self.next_number += 1
            else:
                now[number] = records
        return now

    # Ahead of the first round there are no groups.
    def last_round(self):
        if len(self.rounds) == 0:
            return {}
        return self.rounds[-1]

    def show(self):
        return groups_in_numbers(self.last_round())

    def of(self, record):
        return [number_of(record, self.last_round())]

    def leads(self, number):
        if number < 1 or number >= self.next_number:
            return [-3]
        there = number
        # This ends: each step goes to a number that was there in a later round, and 0 never led anywhere.
        while there in self.led:
            there = self.led[there]
        return [there]

    def was(self, which, record):
        if which < 1 or which > len(self.rounds):
            return [-3]
        return [number_of(record, self.rounds[which - 1])]


def end_of_call(calls, start):
    if calls[start] == ROUND:
        return start + 2 + calls[start + 1]
    return start + 1 + NUMBERS_BEHIND[calls[start]]


def answer_of(desk, call):
    kind = call[0]
    if kind == BEGIN:
        return desk.begin()
    if kind == ROUND:
        return desk.take_round(call[2:])
    if kind == SHOW:
        return desk.show()
    if kind == OF:
        return desk.of(call[1])
    if kind == LEADS:
        return desk.leads(call[1])
    # Only was is left: a call that is not known has no length, and does not come this far.
    return desk.was(call[1], call[2])


def answers(calls):
    desk = Desk()
    given = []
    start = 0
    while start < len(calls):
        end = end_of_call(calls, start)
        answer = answer_of(desk, calls[start:end])
        given.append(len(answer))
        given.extend(answer)
        start = end
    return given
