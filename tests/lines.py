"""Lines of calls as tests write them, and their answers call by call."""

from numberskept.desk import answers

BEGIN = [0]
SHOW = [2]
COUNTS = [11]


def told_of(groups):
    """Records and labels of these groups; the labels are 10, 11, ... in the order in which the groups are given."""
    told = []
    for label, records in enumerate(groups, start=10):
        for record in records:
            told += [record, label]
    return told


def told_round(*groups):
    return raw_round(told_of(groups))


def raw_round(told):
    return [1, len(told)] + told


def told_would(*groups):
    return raw_would(told_of(groups))


def raw_would(told):
    return [10, len(told)] + told


def of(record):
    return [3, record]


def leads(number):
    return [4, number]


def was(which, record):
    return [5, which, record]


def ended(which):
    return [6, which]


def begun(which):
    return [7, which]


def hold(number, record):
    return [8, number, record]


def let(number):
    return [9, number]


def split(given):
    """The answer of each call, as a list of its own."""
    parts = []
    place = 0
    while place < len(given):
        size = given[place]
        part = given[place + 1:place + 1 + size]
        assert len(part) == size and size > 0, given
        parts.append(part)
        place += 1 + size
    return parts


def ask(*calls):
    """Answer all calls on one desk, and give each one's answer."""
    parts = split(answers([number for call in calls for number in call]))
    assert len(parts) == len(calls), (calls, parts)
    return parts


def last(*calls):
    return ask(*calls)[-1]
