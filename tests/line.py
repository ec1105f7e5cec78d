"""Writes a line of calls as the list that is handed in, and reads what is given back."""

from upgradeways.house import answers

BIG = 4294967295


def begins():
    return [0]


def service(copies, up, versions, wanted):
    return [1, copies, up, versions, wanted]


def move(service, old, new):
    return [2, service, old, new]


def clash(first, version, other, otherversion):
    return [3, first, version, other, otherversion]


def step(service, old, new, copies):
    return [4, service, old, new, copies]


def plan():
    return [5]


def may():
    return [6]


def goal(service, wanted):
    return [7, service, wanted]


def now():
    return [8]


def all_moves(of):
    """All moves of a service with three versions, the plan's last ones first."""
    return [move(of, old, new) for old in (2, 1, 0) for new in (2, 1, 0) if old != new]


def written(calls):
    return [number for call in calls for number in call]


def answered(*calls):
    """One list of numbers for each call."""
    given = answers(written(calls))
    read = []
    place = 0
    while place < len(given):
        end = place + 1 + given[place]
        if given[place] < 1 or end > len(given):
            raise AssertionError(f"a count that doesn't fit at {place}: {given}")
        read.append(given[place + 1:end])
        if min(read[-1]) < 0 and len(read[-1]) > 1:
            raise AssertionError(f"a refusal that isn't alone: {read[-1]}")
        place = end
    if len(read) != len(calls):
        raise AssertionError(f"{len(calls)} calls, {len(read)} answers: {given}")
    return read


def told(*calls):
    """All that the last call answers."""
    return answered(*calls)[-1]


def numbers(*calls):
    """The one number that each call answers, where all of them answer one."""
    read = answered(*calls)
    if any(len(answer) != 1 for answer in read):
        raise AssertionError(f"more than one number: {read}")
    return [answer[0] for answer in read]


def last(*calls):
    return numbers(*calls)[-1]
