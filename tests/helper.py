"""Calls by name, their answers taken apart again, and all lists of breaks."""

import itertools

from icebreaks.fairway import answers

NUMBERS = {
    "create": 0,
    "add_day": 1,
    "remove_last_day": 2,
    "set_growth": 3,
    "set_trip_cost": 4,
    "set_max_thickness": 5,
    "list_growth": 6,
    "thickness_between": 7,
    "add_break": 8,
    "remove_break": 9,
    "list_breaks": 10,
    "thickness_per_break": 11,
    "is_valid_schedule": 12,
    "schedule_cost": 13,
    "total_growth": 14,
    "optimal_breaks": 15,
    "use_optimal_breaks": 16,
    "excess_effort": 17,
    "saving_of_break": 18,
    "min_break_count": 19,
    "cheapest_break_count": 20,
    "use_cheapest_breaks": 21,
    "cheapest_with_growth": 22,
    "cheapest_with_max_thickness": 23,
    "balanced_effort": 24,
    "thickness_at": 25,
    "summary": 26,
}

MOST_CALLS = 50

CREATE = ("create",)


def numbers_of(calls):
    if not 1 <= len(calls) <= MOST_CALLS:
        raise AssertionError(f"{len(calls)} calls in one list")
    numbers = []
    for call in calls:
        numbers.append(NUMBERS[call[0]])
        numbers.extend(call[1:])
    return numbers


def taken_apart(answered):
    parts = []
    rest = list(answered)
    while rest:
        count = rest[0]
        if len(rest) < 1 + count:
            raise AssertionError(f"{answered} ends within an answer")
        parts.append(rest[1:1 + count])
        rest = rest[1 + count:]
    return parts


def run(*calls):
    return taken_apart(answers(numbers_of(calls)))


def last(*calls):
    return run(*calls)[-1]


def after(calls, *looks):
    return run(*calls, *looks)[len(calls):]


def with_days(*growths):
    return [CREATE] + [("add_day", growth) for growth in growths]


def with_breaks(growths, breaks):
    return with_days(*growths) + [("add_break", day) for day in breaks]


def lists_of_breaks(day_count):
    for count in range(day_count + 1):
        yield from itertools.combinations(range(day_count), count)


def thicknesses_of(growths, breaks):
    starts = [0] + [day + 1 for day in breaks]
    return [sum(growths[start:day + 1]) for start, day in zip(starts, breaks)]


def search(growths, max_thickness=999):
    """By number of breaks, the least effort and the first list that has it."""
    found = {}
    for breaks in lists_of_breaks(len(growths)):
        thicknesses = thicknesses_of(growths, breaks)
        within = all(thickness <= max_thickness for thickness in thicknesses)
        if within and [*breaks[-1:]] == [*range(len(growths))][-1:]:
            candidate = (sum(thickness ** 2 for thickness in thicknesses), breaks)
            found[len(breaks)] = min(candidate, found.get(len(breaks), candidate))
    return found


def cheapest_by_search(growths, max_thickness=999, trip_cost=0):
    """The number of breaks and its total cost, or nothing at all."""
    found = search(growths, max_thickness)
    return min(((effort + trip_cost * count, count) for count, (effort, _) in found.items()), default=())[::-1]
