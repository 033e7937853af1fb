"""The calls that look for the best breaks, each answering its list of numbers."""

from icebreaks.breaklists import effort_of, effort_of_list, is_valid_list
from icebreaks.instance import check_at_most, check_between, check_day
from icebreaks.limits import MOST_GROWTH, MOST_THICKNESS
from icebreaks.optimal import cheapest_of, optimal_plans, total_cost_of
from icebreaks.refusals import NoValidList, ScheduleNotValid


def optimal_plan(instance, break_count):
    check_at_most(break_count, len(instance.growths))
    plan = optimal_plans(instance.growths, instance.max_thickness)[break_count]
    if plan is None:
        raise NoValidList()
    return plan


def optimal_breaks(instance, break_count):
    plan = optimal_plan(instance, break_count)
    return [plan.effort] + plan.breaks


def use_optimal_breaks(instance, break_count):
    plan = optimal_plan(instance, break_count)
    instance.breaks = plan.breaks
    return [plan.effort]


def excess_effort(instance):
    if not is_valid_list(instance.growths, instance.breaks, instance.max_thickness):
        raise ScheduleNotValid()
    plan = optimal_plan(instance, len(instance.breaks))
    return [effort_of_list(instance.growths, instance.breaks) - plan.effort]


def saving_of_break(instance, k):
    check_between(k, 2, len(instance.growths))
    plans = optimal_plans(instance.growths, MOST_THICKNESS)
    return [plans[k - 1].effort - plans[k].effort]


def defined_plans(growths, max_thickness):
    plans = [plan for plan in optimal_plans(growths, max_thickness) if plan is not None]
    if len(plans) == 0:
        raise NoValidList()
    return plans


def min_break_count(instance):
    plans = defined_plans(instance.growths, instance.max_thickness)
    return [len(plans[0].breaks)]


def cheapest_answer(growths, max_thickness, trip_cost):
    plan = cheapest_of(defined_plans(growths, max_thickness), trip_cost)
    return [len(plan.breaks), total_cost_of(plan, trip_cost)]


def cheapest_break_count(instance):
    return cheapest_answer(instance.growths, instance.max_thickness, instance.trip_cost)


def use_cheapest_breaks(instance):
    plan = cheapest_of(defined_plans(instance.growths, instance.max_thickness), instance.trip_cost)
    instance.breaks = plan.breaks
    return [total_cost_of(plan, instance.trip_cost)]


def cheapest_with_growth(instance, day, growth):
    check_day(instance, day)
    check_at_most(growth, MOST_GROWTH)
    growths = list(instance.growths)
    growths[day] = growth
    return cheapest_answer(growths, instance.max_thickness, instance.trip_cost)


def cheapest_with_max_thickness(instance, max_thickness):
    check_at_most(max_thickness, MOST_THICKNESS)
    return cheapest_answer(instance.growths, max_thickness, instance.trip_cost)


def balanced_effort(instance, k):
    day_count = len(instance.growths)
    check_between(k, 1, day_count)
    shorter = day_count // k
    longer_count = day_count % k
    return [longer_count * effort_of(shorter + 1) + (k - longer_count) * effort_of(shorter)]


OPTIMUM_CALLS = {
    15: optimal_breaks,
    16: use_optimal_breaks,
    17: excess_effort,
    18: saving_of_break,
    19: min_break_count,
    20: cheapest_break_count,
    21: use_cheapest_breaks,
    22: cheapest_with_growth,
    23: cheapest_with_max_thickness,
    24: balanced_effort,
}
