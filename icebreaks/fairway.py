"""The interface: calls on one new fairway in one list, their answers in another."""

from icebreaks.day_calls import DAY_CALLS
from icebreaks.instance import Instance
from icebreaks.optimum_calls import OPTIMUM_CALLS
from icebreaks.refusals import NoInstance, Refusal
from icebreaks.schedule_calls import SCHEDULE_CALLS

CREATE = 0

# By call number.
PARAMETER_COUNTS = (
    0, 1, 0, 2, 1, 1, 0,
    2, 1, 1, 0, 0, 0, 0,
    0, 1, 1, 0, 1, 0, 0,
    0, 2, 1, 1, 1, 0,
)


def operation_of(number):
    if number in DAY_CALLS:
        return DAY_CALLS[number]
    if number in SCHEDULE_CALLS:
        return SCHEDULE_CALLS[number]
    return OPTIMUM_CALLS[number]


def run_call(instance, number, given):
    if instance is None:
        raise NoInstance()
    operation = operation_of(number)
    if len(given) == 0:
        return operation(instance)
    if len(given) == 1:
        return operation(instance, given[0])
    return operation(instance, given[0], given[1])


def answer_of(instance, number, given):
    try:
        return run_call(instance, number, given)
    except Refusal as refusal:
        return [refusal.code]


def answers(calls):
    answered = []
    instance = None
    place = 0
    while place < len(calls):
        number = calls[place]
        given = calls[place + 1:place + 1 + PARAMETER_COUNTS[number]]
        place += 1 + len(given)
        if number == CREATE:
            instance = Instance()
            answer = [0]
        else:
            answer = answer_of(instance, number, given)
        answered.append(len(answer))
        answered.extend(answer)
    return answered
