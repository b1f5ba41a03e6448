"""The document's words once more, by trying all ways: slow, plain, and with nothing of the program in it."""

import itertools

NEW_COMES_LAST = float("inf")


class Model:
    def __init__(self):
        self.rounds = []
        self.ended = {}
        self.given = 0

    def ahead(self):
        return self.rounds[-1] if self.rounds else []

    def answer(self, call):
        if call[0] == 0:
            self.__init__()
            return [0]
        if call[0] == 1:
            return self.round(call[2:])
        if call[0] == 2:
            return self.told(self.ahead())
        if call[0] == 3:
            return [self.number_in(self.ahead(), call[1])]
        if call[0] == 4:
            return [self.leads(call[1]) if 1 <= call[1] <= self.given else -3]
        if 1 <= call[1] <= len(self.rounds):
            return [self.number_in(self.rounds[call[1] - 1], call[2])]
        return [-3]

    def round(self, told):
        pairs = list(zip(told[::2], told[1::2]))
        records = [record for record, label in pairs]
        labels = {label for record, label in pairs}
        if (len(told) % 2 or len(pairs) > 8 or not set(records) <= set(range(1, 31)) or len(set(records)) != len(records)
                or any(label > 100 for label in labels) or len(labels) > 6):
            return [-1]
        if len(self.rounds) == 30:
            return [-6]
        groups = sorted((sorted(r for r, other in pairs if other == label) for label in labels), key=min)
        ahead = self.ahead()
        now = []
        for number, group in zip(self.best(groups, ahead), groups):
            if number == NEW_COMES_LAST:
                self.given += 1
                number = self.given
            now.append((number, group))
        for number, group in ahead:
            if number not in [other for other, records in now]:
                shares = [(-len(set(group) & set(records)), place, other)
                          for place, (other, records) in enumerate(now) if set(group) & set(records)]
                self.ended[number] = min(shares)[2] if shares else 0
        self.rounds.append(now)
        return [len(self.rounds)] + self.told(now)

    @staticmethod
    def best(groups, ahead):
        had = {record: number for number, group in ahead for record in group}
        found = []
        for way in itertools.product([number for number, group in ahead] + [NEW_COMES_LAST], repeat=len(groups)):
            old = [number for number in way if number != NEW_COMES_LAST]
            if len(set(old)) != len(old):
                continue
            if any(number != NEW_COMES_LAST and number not in [had.get(record) for record in group]
                   for number, group in zip(way, groups)):
                continue
            keep = sum(had.get(record) == number for number, group in zip(way, groups) for record in group)
            found.append((-keep, way))
        return min(found)[1]

    def leads(self, number):
        if number in [other for other, group in self.ahead()]:
            return number
        return self.leads(self.ended[number]) if self.ended[number] else 0

    @staticmethod
    def number_in(groups, record):
        return sum(number for number, group in groups if record in group)

    @staticmethod
    def told(groups):
        told = [len(groups)]
        for number, group in groups:
            told += [number, len(group)] + group
        return told
