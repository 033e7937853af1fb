"""The calls on the schedule of breaks, each answering its list of numbers."""

from icebreaks.breaklists import effort_of_list, is_valid_list, removed_thicknesses, thickness_before_break
from icebreaks.instance import check_day
from icebreaks.refusals import BreakThereAlready, NoSuchBreak


def add_break(instance, day):
    check_day(instance, day)
    if day in instance.breaks:
        raise BreakThereAlready()
    instance.breaks = sorted(instance.breaks + [day])
    return [thickness_before_break(instance.growths, instance.breaks, day)]


def remove_break(instance, day):
    if day not in instance.breaks:
        raise NoSuchBreak()
    instance.breaks.remove(day)
    return [len(instance.breaks)]


def list_breaks(instance):
    return [len(instance.breaks)] + instance.breaks


def thickness_per_break(instance):
    return [len(instance.breaks)] + removed_thicknesses(instance.growths, instance.breaks)


def is_valid_schedule(instance):
    if is_valid_list(instance.growths, instance.breaks, instance.max_thickness):
        return [1]
    return [0]


def schedule_cost(instance):
    effort = effort_of_list(instance.growths, instance.breaks)
    return [effort, effort + instance.trip_cost * len(instance.breaks)]


def thickness_at(instance, day):
    check_day(instance, day)
    return [thickness_before_break(instance.growths, instance.breaks, day)]


SCHEDULE_CALLS = {
    8: add_break,
    9: remove_break,
    10: list_breaks,
    11: thickness_per_break,
    12: is_valid_schedule,
    13: schedule_cost,
    25: thickness_at,
}
