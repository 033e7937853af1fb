"""The errors by which a call is refused, each with the code that is answered."""


class Refusal(Exception):
    def __init__(self, code):
        self.code = code


class NoInstance(Refusal):
    def __init__(self):
        Refusal.__init__(self, -11)


class NoSuchDay(Refusal):
    def __init__(self):
        Refusal.__init__(self, -2)


class NoSuchBreak(Refusal):
    def __init__(self):
        Refusal.__init__(self, -2)


class OutOfRange(Refusal):
    def __init__(self):
        Refusal.__init__(self, -22)


class NoDays(Refusal):
    def __init__(self):
        Refusal.__init__(self, -6)


class BreakThereAlready(Refusal):
    def __init__(self):
        Refusal.__init__(self, -17)


class TooManyDays(Refusal):
    def __init__(self):
        Refusal.__init__(self, -28)


class NoValidList(Refusal):
    def __init__(self):
        Refusal.__init__(self, -33)


class ScheduleNotValid(Refusal):
    def __init__(self):
        Refusal.__init__(self, -33)
