"""The document's words once more, by trying all ways: slow, plain, and with nothing of the program in it."""

import itertools

NEW_COMES_LAST = float("inf")


class Model:
    def __init__(self):
        self.rounds = []
        self.ends = []
        self.news = []
        self.given = 0
        self.held = []

    def ahead(self):
        return self.rounds[-1] if self.rounds else []

    def answer(self, call):
        ways = [self.begin, self.round, self.show, self.of, self.leads, self.was,
                self.ended, self.begun, self.hold, self.let, self.would, self.counts]
        if call[0] in (1, 10):
            return ways[call[0]](call[2:])
        return ways[call[0]](*call[1:])

    def begin(self):
        self.__init__()
        return [0]

    def round(self, told):
        if self.is_wrong(told):
            return [-1]
        if len(self.rounds) == 30:
            return [-6]
        groups = self.groups(told)
        ahead = self.ahead()
        now = []
        news = []
        for number, group in zip(self.best(groups)[1], groups):
            if number == NEW_COMES_LAST:
                self.given += 1
                number = self.given
                news.append(number)
            now.append((number, group))
        ends = []
        for number, group in ahead:
            if number not in [other for other, records in now]:
                shares = [(-len(set(group) & set(records)), place, other)
                          for place, (other, records) in enumerate(now) if set(group) & set(records)]
                ends.append((number, min(shares)[2] if shares else 0))
        self.rounds.append(now)
        self.ends.append(ends)
        self.news.append(news)
        return [len(self.rounds)] + self.told(now)

    def show(self):
        return self.told(self.ahead())

    def of(self, record):
        return [self.number_in(self.ahead(), record)]

    def leads(self, number):
        if not 1 <= number <= self.given:
            return [-3]
        # Round by round: each end is looked at once, in the order of time.
        for ends in self.ends:
            number = dict(ends).get(number, number)
        return [number]

    def was(self, which, record):
        return [self.number_in(self.rounds[which - 1], record)] if 1 <= which <= len(self.rounds) else [-3]

    def ended(self, which):
        if not 1 <= which <= len(self.rounds):
            return [-3]
        return [len(self.ends[which - 1])] + [number for end in self.ends[which - 1] for number in end]

    def begun(self, which):
        if not 1 <= which <= len(self.rounds):
            return [-3]
        return [len(self.news[which - 1])] + self.news[which - 1]

    def hold(self, number, record):
        if not 1 <= number <= self.given:
            return [-3]
        if not 1 <= record <= 30:
            return [-1]
        before = sum(to for other, to in self.held if other == number)
        self.held = [pair for pair in self.held if pair[0] != number] + [(number, record)]
        return [before]

    def let(self, number):
        if number not in [other for other, to in self.held]:
            return [-3]
        self.held = [pair for pair in self.held if pair[0] != number]
        return [len(self.held)]

    def would(self, told):
        if self.is_wrong(told):
            return [-1]
        keep, way = self.best(self.groups(told))
        return [keep, len(way)] + [0 if number == NEW_COMES_LAST else number for number in way]

    def counts(self):
        return [len(self.rounds), self.given + 1, sum(len(ends) for ends in self.ends), len(self.held)]

    @staticmethod
    def is_wrong(told):
        records = told[::2]
        labels = told[1::2]
        return (len(records) != len(labels) or len(records) > 8 or not set(records) <= set(range(1, 31))
                or len(set(records)) != len(records) or not set(labels) <= set(range(101)) or len(set(labels)) > 6)

    @staticmethod
    def groups(told):
        pairs = list(zip(told[::2], told[1::2]))
        return sorted((sorted(record for record, other in pairs if other == label)
                       for label in {label for record, label in pairs}), key=min)

    def best(self, groups):
        had = {record: number for number, group in self.ahead() for record in group}
        found = []
        for way in itertools.product(*[self.may_have(group, groups) for group in groups]):
            old = [number for number in way if number != NEW_COMES_LAST]
            if len(set(old)) == len(old):
                keep = sum(had.get(record) == number for number, group in zip(way, groups) for record in group)
                found.append((-keep, way))
        keep, way = min(found)
        return -keep, way

    def may_have(self, group, groups):
        to_this = [number for number, record in self.held
                   if record in group and number in [other for other, records in self.ahead()]]
        if to_this:
            return [min(to_this)]
        to_told = [number for number, record in self.held if any(record in records for records in groups)]
        return [number for number, records in self.ahead()
                if set(records) & set(group) and number not in to_told] + [NEW_COMES_LAST]

    @staticmethod
    def number_in(groups, record):
        return sum(number for number, group in groups if record in group)

    @staticmethod
    def told(groups):
        told = [len(groups)]
        for number, group in groups:
            told += [number, len(group)] + group
        return told
