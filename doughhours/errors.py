"""The refusals of the program, each of them straight under DoughError."""


class DoughError(ValueError):
    pass


class BadTime(DoughError):
    pass


class BadName(DoughError):
    pass


class BadWant(DoughError):
    pass


class BadNumber(DoughError):
    pass


class BadCount(DoughError):
    pass


class TwiceNamed(DoughError):
    pass


class NoBread(DoughError):
    pass


class BeyondNight(DoughError):
    pass


class TooMany(DoughError):
    pass


class BadPlan(DoughError):
    pass


class NoBatch(DoughError):
    pass


class NoOven(DoughError):
    pass


class NoOrder(DoughError):
    pass


class Faulty(DoughError):
    pass


class TooCold(DoughError):
    pass


class TooWide(DoughError):
    pass


class NoPlan(DoughError):
    pass
