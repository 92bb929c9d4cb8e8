"""Breads, and the stages that a batch of one goes through."""

from doughhours.checks import HOTTEST, check_count, check_name, check_number
from doughhours.errors import BadWant
from doughhours.times import NIGHT

WANTS = ("nothing", "hands", "bench", "oven")
MOST_STAGES = 6


class Stage:
    def __init__(self, name, least, most, want, heat=0):
        check_name(name)
        if want not in WANTS:
            raise BadWant(f"a stage can't want {want!r}")
        check_number(least, 1, NIGHT)
        check_number(most, least, NIGHT)
        check_number(heat, 0, HOTTEST)
        self.name = name
        self.least = least
        self.most = most
        self.want = want
        self.heat = heat


class Bread:
    def __init__(self, name, stages):
        check_name(name)
        check_count(len(stages), 1, MOST_STAGES)
        self.name = name
        self.stages = tuple(stages)

    def shortest(self):
        return sum([stage.least for stage in self.stages])

    def longest(self):
        return sum([stage.most for stage in self.stages])

    def bakes(self):
        return any([stage.want == "oven" for stage in self.stages])
