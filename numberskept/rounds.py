"""What a round is made of: its groups, and the numbers that they get.

What is told is a list: a record, its label, a record, its label, and so on.
A group is the list of its records, rising.
A round that was is a dict: of each group, in their order, its number and its records.
A way to give numbers is a list: of each group, in their order, its number, or NEW.
What is held is a dict: of each number that is held, the record to which it is.
"""

MOST_RECORDS = 8
LAST_RECORD = 30
LAST_LABEL = 100
MOST_GROUPS = 6

# A new number's place is kept by 0: which number it will be is known only when the way is chosen.
NEW = 0


def is_a_record(record):
    return record >= 1 and record <= LAST_RECORD


def can_be_told(told):
    if len(told) % 2 == 1:
        return False
    records = told[0::2]
    labels = told[1::2]
    if len(records) > MOST_RECORDS or len(set(records)) < len(records):
        return False
    if not all([is_a_record(record) for record in records]):
        return False
    if any([label > LAST_LABEL for label in labels]):
        return False
    return len(set(labels)) <= MOST_GROUPS


def groups_told(told):
    labels = {}
    for record, label in zip(told[0::2], told[1::2]):
        labels[record] = label
    groups = {}
    # Records are walked rising, so that a label first comes with the least record of its group.
    for record in sorted(labels):
        groups.setdefault(labels[record], []).append(record)
    return list(groups.values())


def how_many_in_both(records, others):
    return len([record for record in records if record in others])


def those_that_count(held, groups, ahead):
    counting = {}
    for number, record in held.items():
        if number in ahead and any([record in records for records in groups]):
            counting[number] = record
    return counting


# The lower number is to be preferred and a new one comes last: the order of what is given back tells that.
def numbers_it_may_have(records, ahead, counting):
    held_to_it = [number for number, record in counting.items() if record in records]
    if len(held_to_it) > 0:
        return [min(held_to_it)]
    shared = [number for number, others in ahead.items() if how_many_in_both(records, others) > 0]
    # One that counts goes to the group of its record or, if that has a lower one, to none.
    return sorted([number for number in shared if number not in counting]) + [NEW]


# Eight records share with at most eight groups in all, so that there are never more than 144 ways.
# They come in the order in which they are to be preferred where as many records keep theirs.
def ways_to_give(choices):
    ways = [[]]
    for numbers in choices:
        longer = []
        for way in ways:
            for number in numbers:
                if number == NEW or number not in way:
                    longer.append(way + [number])
        ways = longer
    return ways


def how_many_keep_theirs(way, groups, ahead):
    return sum([how_many_in_both(records, ahead.get(number, [])) for number, records in zip(way, groups)])


def best_way(groups, ahead, held):
    counting = those_that_count(held, groups, ahead)
    ways = ways_to_give([numbers_it_may_have(records, ahead, counting) for records in groups])
    best = ways[0]
    for way in ways:
        # As many are not enough: of several the first stays.
        if how_many_keep_theirs(way, groups, ahead) > how_many_keep_theirs(best, groups, ahead):
            best = way
    return best


def where_it_led(records, now):
    led = 0
    most = 0
    for number, others in now.items():
        shared = how_many_in_both(records, others)
        # As many are not enough: of several groups the first stays, and one that has none never counts.
        if shared > most:
            most = shared
            led = number
    return led


def number_of(record, groups):
    for number, records in groups.items():
        if record in records:
            return number
    return 0


def groups_in_numbers(groups):
    told = [len(groups)]
    for number, records in groups.items():
        told.append(number)
        told.append(len(records))
        told.extend(records)
    return told
