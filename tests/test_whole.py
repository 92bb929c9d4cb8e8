"""The whole program over drawn small nights: what one part tells of a plan agrees with what all others do."""

import math
import random
import unittest

from doughhours.bakery import Bakery
from doughhours.board import board
from doughhours.breads import Bread, Stage
from doughhours.errors import NoPlan, TooWide
from doughhours.faults import fault, heats, late
from doughhours.night import Night
from doughhours.orders import Order, cut
from doughhours.ovens import Oven
from doughhours.planner import few, last_begin, latest, slack, ways
from doughhours.plans import Run, held, stand
from doughhours.times import clock
from models import as_tuples, first_of, plain_ways, walked, wanted_in
from planned import Planned
from samples import placed, seen, shop

LENGTHS = ((5, 5), (5, 10), (10, 10), (1, 9), (8, 15), (10, 12), (6, 16), (15, 20), (6, 9))


def drawn_stage(chance):
    least, most = chance.choice(LENGTHS[:-1] if chance.random() < 0.97 else LENGTHS)
    want = chance.choice(("nothing", "hands", "hands", "hands", "bench", "bench", "oven", "oven"))
    return Stage("work", least, most, want, chance.choice((180, 200, 200, 200, 230)))


def drawn_order(chance, asked):
    # Its time lies not far behind the first at which it can be done, so that orders hinder one another.
    bread = chance.choice(asked.breads)
    due = sum((stage.least + 4) // 5 * 5 for stage in bread.stages) + chance.choice((0, 5, 5, 10, 10, 15, 17, 20, 30))
    return Order(bread.name, chance.choice((1, 2, 3, 4, 5, 5, 10)), min(due, asked.night))


def drawn_night(chance):
    """A bakery and orders of at most three batches."""
    rooms = [chance.randint(5, 8) for oven in range(chance.choice((1, 1, 1, 2, 3)))]
    ovens = [Oven(room, chance.choice((2, 5, 10, 10, 300)), chance.choice((150, 180, 200, 200))) for room in rooms]
    breads = [Bread(name, [drawn_stage(chance) for stage in range(chance.choice((1, 1, 2, 2, 3, 4)))])
              for name in ("rye", "oat", "bun")]
    asked = Bakery(chance.choice((30, 37, 45, 60)), chance.choice((1, 1, 1, 2)), chance.choice((1, 1, 2)),
                   ovens, breads)
    while True:
        orders = [drawn_order(chance, asked) for number in range(chance.choice((0, 1, 2, 2, 3, 3, 3, 3)))]
        if sum(math.ceil(order.loaves / max(rooms)) for order in orders) <= 3:
            return asked, orders


def width(asked, orders):
    return math.prod(max(1, len(row)) for row in plain_ways(asked, orders))


class TestDrawnNights(Planned):
    def keeps_to_the_bakery(self, asked, orders, plan):
        self.assertIsNone(fault(asked, orders, plan))
        self.assertEqual(walked(asked, orders, plan), [])
        self.assertEqual(board(asked, orders, plan)[-1], "all is well")
        for minute in range(-1, asked.night + 1):
            hands, benches, loaves = held(asked, orders, plan, minute)
            self.assertLessEqual(hands, asked.hands)
            self.assertLessEqual(benches, asked.benches)
            for oven, count in zip(asked.ovens, loaves):
                self.assertLessEqual(count, oven.room)
        for number, order in enumerate(orders):
            self.assertEqual(stand(asked, orders, plan, order.due)[number], order.loaves)
        for number in range(1, len(asked.ovens) + 1):
            self.keeps_to_the_oven(asked, orders, plan, number)

    def keeps_to_the_oven(self, asked, orders, plan, number):
        oven = asked.ovens[number - 1]
        row = heats(asked, orders, plan, number)
        self.assertEqual((len(row), row[0]), (asked.night + 1, oven.heat))
        for one, other in zip(row, row[1:]):
            self.assertLessEqual(abs(one - other), oven.rate)
        for minute, heat in enumerate(wanted_in(asked, orders, plan, number)):
            if heat != -1:
                self.assertEqual(row[minute:minute + 2], [heat, heat])

    def late_agrees(self, asked, orders, plan, chance):
        for batch, run in enumerate(plan, start=1):
            minutes = chance.choice((1, 5, 10, 60))
            moved = plan[:batch - 1] + [Run(run.begin + minutes, run.lengths, run.oven)] + plan[batch:]
            found = first_of(walked(asked, orders, moved))
            self.assertEqual(late(asked, orders, plan, batch, minutes), found)
            last = "all is well" if found is None else f"fault at {clock(found[0])}: {found[1]} {found[2]}"
            self.assertEqual(board(asked, orders, moved)[-1], last)

    def night_agrees(self, asked, orders, good):
        night = Night(asked)
        for order in orders:
            night.put(order.bread, order.loaves, order.due)
        word, told = night.told()
        if good:
            plan = latest(asked, orders)
            self.assertEqual((word, [run.begin for run in told]), ("plan", [run.begin for run in plan]))
            self.assertEqual(night.page(), board(asked, orders, plan))
        else:
            self.assertEqual((word, told), ("few", few(asked, orders)))
            self.assertEqual(night.page(), [" ".join(["no plan for orders"] + [str(number) for number in told])])

    def test_against_a_search(self):
        chance = random.Random(24)
        kinds = {"plan": 0, "slack": 0, 1: 0, 2: 0, 3: 0}
        cases = 0
        while cases < 400:
            asked, orders = drawn_night(chance)
            if width(asked, orders) > 400:
                continue
            cases += 1
            search = self.agrees(asked, orders)
            self.night_agrees(asked, orders, search.good)
            if not search.good:
                kinds[len(few(asked, orders))] += 1
                continue
            kinds["plan"] += 1
            kinds["slack"] += any(slack(asked, orders))
            plan = latest(asked, orders)
            self.keeps_to_the_bakery(asked, orders, plan)
            self.late_agrees(asked, orders, plan, chance)
            for batch in range(1, len(plan) + 1):
                self.keeps_to_the_bakery(asked, orders, last_begin(asked, orders, batch)[1])
        # A comparison says something only where each kind of night came up.
        self.assertGreater(kinds["plan"], 100, kinds)
        self.assertGreater(kinds["slack"], 20, kinds)
        self.assertGreater(min(kinds[1], kinds[2]), 20, kinds)
        self.assertGreater(kinds[3], 2, kinds)

    def test_wide_ones(self):
        chance = random.Random(23)
        wide = 0
        while wide < 20:
            asked, orders = drawn_night(chance)
            if width(asked, orders) > 2000:
                wide += 1
                for ask in (latest, slack, few):
                    with self.assertRaises(TooWide):
                        ask(asked, orders)
                with self.assertRaises(TooWide):
                    last_begin(asked, orders, chance.randint(0, 4))
                self.same_ways(asked, orders, plain_ways(asked, orders))

    def test_more_ways_than_a_few(self):
        chance = random.Random(26)
        cases = 0
        while cases < 12:
            asked, orders = drawn_night(chance)
            if 700 < width(asked, orders) <= 2000:
                cases += 1
                self.agrees(asked, orders)


class TestAskedAgain(unittest.TestCase):
    def spoil(self, told):
        """Changes a told list in every way that a caller can."""
        told.reverse()
        told.append(Run(0, [5]))
        told[0] = Run(55, [5, 5])
        told.clear()

    def ask_all(self, asked, orders):
        """All that the planner tells, as far as it is not open; each told list is spoilt behind it."""
        answers = []
        for ask in (few, slack):
            try:
                told = ask(asked, orders)
                answers.append(list(told))
                self.spoil(told)
            except NoPlan:
                answers.append("no plan")
        try:
            plan = latest(asked, orders)
            answers.append([run.begin for run in plan])
            row = board(asked, orders, plan)
            answers.append(len(row))
            self.spoil(row)
            self.spoil(heats(asked, orders, plan, 1))
            self.spoil(held(asked, orders, plan, 10)[2])
            self.spoil(plan)
        except NoPlan:
            answers.append("no plan")
        for batch in range(1, len(cut(asked, orders)) + 1):
            told = ways(asked, orders, batch)
            answers.append(sorted(as_tuples(told)))
            self.spoil(told)
            try:
                minute, plan = last_begin(asked, orders, batch)
                answers.append((minute, plan[batch - 1].begin))
                self.spoil(plan)
            except NoPlan:
                answers.append("no plan")
        return answers

    def test_in_any_turn(self):
        chance = random.Random(1)
        nights = []
        while len(nights) < 40:
            asked, orders = drawn_night(chance)
            if width(asked, orders) <= 150:
                nights.append((asked, orders))
        before = seen(nights)
        first = [self.ask_all(asked, orders) for asked, orders in nights]
        turns = list(range(len(nights))) * 2
        chance.shuffle(turns)
        for turn in turns:
            self.assertEqual(self.ask_all(*nights[turn]), first[turn])
        self.assertEqual(seen(nights), before)
        self.assertGreater(sum("no plan" in answers for answers in first), 5)
        self.assertGreater(sum("no plan" not in answers for answers in first), 10)

    def test_told_runs_are_apart(self):
        asked, orders = shop({"rest": [(5, 5, "nothing", 0)]}), placed(("rest", 10), ("rest", 10))
        runs = latest(asked, orders) + latest(asked, orders) + ways(asked, orders, 1) + ways(asked, orders, 2)
        self.assertEqual(len({id(run) for run in runs}), len(runs))

    def test_the_handed_list_may_change_behind_an_answer(self):
        asked, orders = shop({"rest": [(5, 5, "nothing", 0)]}), placed(("rest", 10), ("rest", 20))
        plan = latest(asked, orders)
        minute, other = last_begin(asked, orders, 2)
        orders.clear()
        self.assertEqual([run.begin for run in plan], [5, 15])
        self.assertEqual((minute, len(other)), (15, 2))
        self.assertEqual(latest(asked, orders), [])


if __name__ == "__main__":
    unittest.main()
