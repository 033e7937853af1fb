"""Calls by name, and their answers taken apart again."""

from icebreaks.fairway import answers

NUMBERS = {
    "create": 0,
    "add_day": 1,
    "remove_last_day": 2,
    "set_growth": 3,
    "set_trip_cost": 4,
    "set_max_thickness": 5,
    "list_growth": 6,
    "thickness_between": 7,
    "add_break": 8,
    "remove_break": 9,
    "list_breaks": 10,
    "thickness_per_break": 11,
    "is_valid_schedule": 12,
    "schedule_cost": 13,
}

CREATE = ("create",)


def numbers_of(calls):
    numbers = []
    for call in calls:
        numbers.append(NUMBERS[call[0]])
        numbers.extend(call[1:])
    return numbers


def taken_apart(answered):
    parts = []
    rest = list(answered)
    while rest:
        count = rest[0]
        if len(rest) < 1 + count:
            raise AssertionError(f"{answered} ends within an answer")
        parts.append(rest[1:1 + count])
        rest = rest[1 + count:]
    return parts


def run(*calls):
    return taken_apart(answers(numbers_of(calls)))


def last(*calls):
    return run(*calls)[-1]


def with_days(*growths):
    return [CREATE] + [("add_day", growth) for growth in growths]


def with_breaks(growths, breaks):
    return with_days(*growths) + [("add_break", day) for day in breaks]
