"""Ovens, and how their heat goes from minute to minute."""

from doughhours.checks import HOTTEST, check_number
from doughhours.errors import TooCold

MOST_ROOM = 30
FASTEST = 300
NOTHING_BAKES = -1


class Oven:
    def __init__(self, room, rate, heat):
        check_number(room, 1, MOST_ROOM)
        check_number(rate, 1, FASTEST)
        check_number(heat, 0, HOTTEST)
        self.room = room
        self.rate = rate
        self.heat = heat


def between(one, other, rate):
    # A part of a minute counts as a whole one.
    return (abs(one - other) + rate - 1) // rate


def goals(wanted):
    # Built from the back, so that each minute knows the heat that is wanted next, its own first.
    row = []
    goal = NOTHING_BAKES
    for heat in reversed(wanted):
        if heat != NOTHING_BAKES:
            goal = heat
        row.append(goal)
    return list(reversed(row))


def towards(heat, goal, rate):
    if heat < goal:
        return min(heat + rate, goal)
    return max(heat - rate, goal)


def course(oven, wanted):
    heat = oven.heat
    row = [heat]
    for want, goal in zip(wanted, goals(wanted)):
        if want == NOTHING_BAKES and goal != NOTHING_BAKES:
            heat = towards(heat, goal, oven.rate)
        if want != NOTHING_BAKES and want != heat:
            minute = len(row) - 1
            raise TooCold(f"the oven has heat {heat} in minute {minute}, not {want}")
        row.append(heat)
    return row
