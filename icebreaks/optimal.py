"""The optimal breaks of growths for each number of breaks, whoever holds them."""

from icebreaks.breaklists import effort_of, thickness_of


class Plan:
    def __init__(self, effort, breaks):
        self.effort = effort
        self.breaks = breaks


def best_plan_from(growths, max_thickness, first_day, later_plans):
    best = None
    for day in range(first_day, len(growths)):
        thickness = thickness_of(growths, first_day, day)
        later = later_plans[day + 1]
        if thickness <= max_thickness and later is not None:
            effort = effort_of(thickness) + later.effort
            # An equal effort with a later first break is lexicographically greater.
            if best is None or effort < best.effort:
                best = Plan(effort, [day] + later.breaks)
    return best


def with_one_break_more(growths, max_thickness, later_plans):
    return [
        best_plan_from(growths, max_thickness, first_day, later_plans)
        for first_day in range(len(growths) + 1)]


def optimal_plans(growths, max_thickness):
    # By first day, all for the same number of breaks. Without a break no day may
    # be left, so that only the place behind the last day has a plan.
    later_plans = [None] * len(growths) + [Plan(0, [])]
    plans = [later_plans[0]]
    while len(plans) <= len(growths):
        later_plans = with_one_break_more(growths, max_thickness, later_plans)
        plans.append(later_plans[0])
    return plans


def total_cost_of(plan, trip_cost):
    return plan.effort + trip_cost * len(plan.breaks)


def cheapest_of(plans, trip_cost):
    cheapest = plans[0]
    for plan in plans:
        # Fewer breaks come first, and ties go to them.
        if total_cost_of(plan, trip_cost) < total_cost_of(cheapest, trip_cost):
            cheapest = plan
    return cheapest
