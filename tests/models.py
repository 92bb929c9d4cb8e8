"""The document's points done once more, plainly and slowly, for the tests to compare with."""

import collections
import itertools

from doughhours.bakery import Bakery
from doughhours.faults import FAULTS
from doughhours.orders import Order
from doughhours.ovens import Oven
from doughhours.plans import Run
from samples import BREADS


def batches_of(asked, orders):
    """The number of its order and the loaves of each batch."""
    most = max(oven.room for oven in asked.ovens)
    return [(number, min(most, order.loaves - done)) for number, order in enumerate(orders, start=1)
            for done in range(0, order.loaves, most)]


def stages_of(asked, order):
    return [bread for bread in asked.breads if bread.name == order.bread][0].stages


def walked(asked, orders, plan):
    """Point 19 word by word and minute by minute: all faults, each as (minute, place of its word, number)."""
    found, works = [], []
    for place, (run, (number, loaves)) in enumerate(zip(plan, batches_of(asked, orders)), start=1):
        order, now = orders[number - 1], run.begin
        for stage, length in zip(stages_of(asked, order), run.lengths):
            if length < stage.least:
                found.append((now + length, 1, place))
            if length > stage.most:
                found.append((now + stage.most, 2, place))
            works += [(minute, stage.want, run.oven, loaves, stage.heat) for minute in range(now, now + length)]
            now += length
        if now > order.due:
            found.append((order.due, 0, number))
    for want, has, place in (("hands", asked.hands, 3), ("bench", asked.benches, 4)):
        counts = collections.Counter(work[0] for work in works if work[1] == want)
        found += [(minute, place, 0) for minute, count in counts.items() if count > has]
    for number, oven in enumerate(asked.ovens, start=1):
        baking = {}
        for minute, want, used, loaves, heat in works:
            if want == "oven" and used == number:
                baking.setdefault(minute, []).append((loaves, heat))
        since, last = 0, oven.heat
        for minute in sorted(baking):
            if sum(loaves for loaves, heat in baking[minute]) > oven.room:
                found.append((minute, 5, number))
            wanted = {heat for loaves, heat in baking[minute]}
            if len(wanted) > 1 or any(abs(heat - last) > (minute - since) * oven.rate for heat in wanted):
                found.append((minute, 6, number))
            since, last = minute + 1, min(wanted)
    return found


def wanted_in(asked, orders, plan, oven):
    """What course is asked with for a plan without a fault."""
    wanted = [-1] * asked.night
    for (number, loaves), run in zip(batches_of(asked, orders), plan):
        for stage, (begin, end) in zip(stages_of(asked, orders[number - 1]), run.spans()):
            if stage.want == "oven" and run.oven == oven:
                wanted[begin:end] = [stage.heat] * (end - begin)
    return wanted


def first_of(found):
    if not found:
        return None
    minute, place, number = min(found)
    return (minute, FAULTS[place], number)


def drawn(chance):
    """A bakery, orders and a plan that fits, near enough to a good one that each word comes first now and then."""
    rooms = [chance.randint(3, 12) for oven in range(chance.randint(1, 3))]
    ovens = [Oven(room, chance.choice((1, 5, 10, 30, 300)), chance.choice((0, 180, 200, 230))) for room in rooms]
    asked = Bakery(chance.randint(60, 200), chance.randint(1, 3), chance.randint(1, 3), ovens, list(BREADS))
    orders, plan = [], []
    for number in range(chance.randint(0, 4)):
        bread = chance.choice(BREADS)
        due = asked.night if chance.random() < 0.8 else chance.randint(0, asked.night)
        orders.append(Order(bread.name, chance.randint(1, 14), due))
        for batch in range(0, orders[-1].loaves, max(rooms)):
            lengths = [chance.choice((10, 11, 15, 20)) for stage in bread.stages]
            if chance.random() < 0.1:
                lengths[chance.randrange(len(lengths))] = chance.choice((0, 5, 9, 21, 40))
            begin = chance.randint(0, max(0, due - sum(lengths)) + 3)
            plan.append(Run(begin, lengths, chance.randint(1, len(rooms)) if bread.bakes() else 0))
    return asked, orders, plan


def plain_ways(asked, orders):
    """Point 22: for each batch its ways, as tuples of a beginning, lengths and an oven, in rising order."""
    rows = []
    for number, loaves in batches_of(asked, orders):
        order = orders[number - 1]
        stages = stages_of(asked, order)
        fives = [minute for minute in range(order.due + 1) if minute % 5 == 0]
        lengths = [[length for length in fives if stage.least <= length <= stage.most] for stage in stages]
        ovens = [place for place, oven in enumerate(asked.ovens, start=1) if oven.room >= loaves]
        if all(stage.want != "oven" for stage in stages):
            ovens = [0]
        rows.append([(begin, row, oven) for begin in fives for row in itertools.product(*lengths)
                     if begin + sum(row) <= order.due for oven in ovens])
    return rows


def as_tuples(plan):
    return [(run.begin, run.lengths, run.oven) for run in plan]


class Search:
    """All good plans of some orders, found by trying every way of every batch beside all of the others'."""

    def __init__(self, asked, orders):
        self.asked, self.orders = asked, orders
        self.ways = plain_ways(asked, orders)
        self.good = [list(plan) for plan in itertools.product(*self.ways) if not self.found(plan)]

    def found(self, plan):
        return walked(self.asked, self.orders, [Run(*way) for way in plan])

    def begins(self):
        """The beginnings that the plan of point 24 has."""
        rows = [[begin for begin, lengths, oven in plan] for plan in self.good]
        best = max(min(row, default=0) for row in rows)
        return max(row for row in rows if min(row, default=0) == best)

    def last(self):
        """The latest beginning of each batch."""
        return [max(plan[place][0] for plan in self.good) for place in range(len(self.ways))]
