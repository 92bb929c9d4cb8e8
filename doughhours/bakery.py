"""The bakery: how long its night is, what it works with, and the breads it makes."""

from doughhours.checks import check_count, check_number
from doughhours.errors import NoBread, TwiceNamed
from doughhours.times import NIGHT

MOST_HANDS = 6
MOST_BENCHES = 6
MOST_OVENS = 3
MOST_BREADS = 8


class Bakery:
    def __init__(self, night, hands, benches, ovens, breads):
        check_number(night, 1, NIGHT)
        check_number(hands, 1, MOST_HANDS)
        check_number(benches, 1, MOST_BENCHES)
        check_count(len(ovens), 1, MOST_OVENS)
        check_count(len(breads), 1, MOST_BREADS)
        check_names_apart([bread.name for bread in breads])
        self.night = night
        self.hands = hands
        self.benches = benches
        self.ovens = tuple(ovens)
        self.breads = tuple(breads)

    def bread_of(self, name):
        for bread in self.breads:
            if bread.name == name:
                return bread
        raise NoBread(f"the bakery has no bread {name!r}")


def check_names_apart(names):
    if len(set(names)) != len(names):
        raise TwiceNamed(f"two breads of one name among {names!r}")
