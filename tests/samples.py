"""What several tests hand in, and how they look at it."""

from doughhours.bakery import Bakery
from doughhours.breads import Bread, Stage
from doughhours.night import Night
from doughhours.orders import Order
from doughhours.ovens import Oven
from doughhours.plans import Run

FAR = (10 ** 5, 10 ** 20, 10 ** 40, -(10 ** 5), -(10 ** 20), -(10 ** 40))


def bread(name, *stages):
    """A bread of stages told as (want, heat), each from 10 to 20 minutes."""
    return Bread(name, [Stage("work", 10, 20, want, heat) for want, heat in stages])


REST = bread("rest", ("nothing", 0))
KNEAD = bread("knead", ("hands", 0))
SHAPE = bread("shape", ("bench", 0))
BAKE = bread("bake", ("oven", 200))
HOT = bread("hot", ("oven", 230))
RYE = bread("rye", ("hands", 0), ("bench", 0), ("oven", 200))
TWICE = bread("twice", ("oven", 200), ("nothing", 0), ("oven", 230))
WHOLE = bread("whole", ("nothing", 0), ("hands", 0), ("bench", 0), ("oven", 200), ("bench", 0), ("hands", 0))
BREADS = (REST, KNEAD, SHAPE, BAKE, HOT, RYE, TWICE, WHOLE)


def bakery(night=720, hands=1, benches=1, rooms=(10,), rate=10, heat=200):
    """A bakery of all the breads above, with an oven for each of the rooms."""
    return Bakery(night, hands, benches, [Oven(room, rate, heat) for room in rooms], list(BREADS))


def seen(handed):
    """All that is in a value, so that two looks at it can be compared."""
    if isinstance(handed, (list, tuple)):
        return [type(handed).__name__] + [(id(part), seen(part)) for part in handed]
    if isinstance(handed, (Bakery, Bread, Stage, Oven, Order, Run, Night)):
        return {name: seen(value) for name, value in vars(handed).items()}
    return handed


def shop(breads, night=60, hands=1, benches=1, ovens=((10, 10, 200),)):
    """A bakery of breads told as {name: [(least, most, want, heat)]} and of ovens told as (room, rate, heat)."""
    made = [Bread(name, [Stage("work", *stage) for stage in stages]) for name, stages in breads.items()]
    return Bakery(night, hands, benches, [Oven(*oven) for oven in ovens], made)


def placed(*rows):
    """Orders from rows of a bread's name, its time and, where it isn't one, the number of its loaves."""
    return [Order(name, loaves[0] if loaves else 1, due) for name, due, *loaves in rows]
