"""The calls on the days and the settings, each answering its list of numbers."""

from icebreaks.breaklists import effort_of, thickness_of
from icebreaks.instance import check_at_most, check_day
from icebreaks.limits import MOST_DAYS, MOST_GROWTH, MOST_THICKNESS, MOST_TRIP_COST
from icebreaks.refusals import NoDays, OutOfRange, TooManyDays


def add_day(instance, growth):
    check_at_most(growth, MOST_GROWTH)
    day = len(instance.growths)
    if day == MOST_DAYS:
        raise TooManyDays()
    instance.growths.append(growth)
    return [day]


def remove_last_day(instance):
    if len(instance.growths) == 0:
        raise NoDays()
    instance.growths.pop()
    last_day = len(instance.growths)
    if last_day in instance.breaks:
        instance.breaks.remove(last_day)
    return [last_day]


def set_growth(instance, day, growth):
    check_day(instance, day)
    check_at_most(growth, MOST_GROWTH)
    old_growth = instance.growths[day]
    instance.growths[day] = growth
    return [old_growth]


def set_trip_cost(instance, trip_cost):
    check_at_most(trip_cost, MOST_TRIP_COST)
    old_trip_cost = instance.trip_cost
    instance.trip_cost = trip_cost
    return [old_trip_cost]


def set_max_thickness(instance, max_thickness):
    check_at_most(max_thickness, MOST_THICKNESS)
    old_max_thickness = instance.max_thickness
    instance.max_thickness = max_thickness
    return [old_max_thickness]


def list_growth(instance):
    return [len(instance.growths)] + instance.growths


def thickness_between(instance, first_day, last_day):
    check_day(instance, first_day)
    check_day(instance, last_day)
    if last_day < first_day:
        raise OutOfRange()
    thickness = thickness_of(instance.growths, first_day, last_day)
    return [thickness, effort_of(thickness)]


def total_growth(instance):
    return [sum(instance.growths)]


def summary(instance):
    return [len(instance.growths), instance.trip_cost, instance.max_thickness, len(instance.breaks)]


DAY_CALLS = {
    1: add_day,
    2: remove_last_day,
    3: set_growth,
    4: set_trip_cost,
    5: set_max_thickness,
    6: list_growth,
    7: thickness_between,
    14: total_growth,
    26: summary,
}
