"""What one fairway holds, and the checks that several calls make against it."""

from icebreaks.limits import MOST_THICKNESS
from icebreaks.refusals import NoSuchDay, OutOfRange


class Instance:
    def __init__(self):
        self.growths = []
        # Kept in increasing order, and only of days that are there.
        self.breaks = []
        self.trip_cost = 0
        self.max_thickness = MOST_THICKNESS


def check_day(instance, day):
    if day >= len(instance.growths):
        raise NoSuchDay()


def check_at_most(number, most):
    if number > most:
        raise OutOfRange()


def check_between(number, least, most):
    if number < least or number > most:
        raise OutOfRange()
