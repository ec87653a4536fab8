"""The refusals: one class for each, all of them below ClockError."""


class ClockError(ValueError):
    pass


class BadStages(ClockError):
    pass


class BadTicks(ClockError):
    pass


class NotNow(ClockError):
    pass


class Over(ClockError):
    pass
