"""Thickness and effort of growths and lists of breaks, whoever holds them."""


def thickness_of(growths, first_day, last_day):
    return sum(growths[first_day:last_day + 1])


def effort_of(thickness):
    return thickness * thickness


def thickness_before_break(growths, breaks, day):
    first_day = 0
    for other in breaks:
        if other < day:
            first_day = other + 1
    return thickness_of(growths, first_day, day)


def removed_thicknesses(growths, breaks):
    return [thickness_before_break(growths, breaks, day) for day in breaks]


def effort_of_list(growths, breaks):
    return sum([effort_of(thickness) for thickness in removed_thicknesses(growths, breaks)])


def is_valid_list(growths, breaks, max_thickness):
    if len(growths) == 0:
        return len(breaks) == 0
    if len(growths) - 1 not in breaks:
        return False
    return max(removed_thicknesses(growths, breaks)) <= max_thickness
