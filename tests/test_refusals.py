"""Points 10 and 14: what every function that takes orders, and every one that takes a plan, refuses first."""

import itertools
import unittest

from doughhours.board import board
from doughhours.errors import BadCount, BadPlan, BeyondNight, NoBread, TooMany
from doughhours.faults import fault, heats, late
from doughhours.orders import Order, accept, cut
from doughhours.planner import few, last_begin, latest, slack, ways
from doughhours.plans import Run, held, stand
from samples import BREADS, bakery, seen

# Each asks with numbers of its own that it would refuse next.
PLAN_ASKERS = {
    "held": lambda asked, orders, plan: held(asked, orders, plan, 0),
    "held far away": lambda asked, orders, plan: held(asked, orders, plan, -(10 ** 40)),
    "stand": lambda asked, orders, plan: stand(asked, orders, plan, 0),
    "stand far away": lambda asked, orders, plan: stand(asked, orders, plan, 10 ** 40),
    "fault": fault,
    "late": lambda asked, orders, plan: late(asked, orders, plan, 1, 1),
    "late for no batch": lambda asked, orders, plan: late(asked, orders, plan, 0, 1),
    "late by no minute": lambda asked, orders, plan: late(asked, orders, plan, 1, 0),
    "late for no batch by no minute": lambda asked, orders, plan: late(asked, orders, plan, 10 ** 40, -1),
    "heats": lambda asked, orders, plan: heats(asked, orders, plan, 1),
    "heats of no oven": lambda asked, orders, plan: heats(asked, orders, plan, 0),
    "board": board,
}
ORDER_ASKERS = {
    "accept": lambda asked, orders, plan: accept(asked, orders),
    "cut": lambda asked, orders, plan: cut(asked, orders),
    "ways": lambda asked, orders, plan: ways(asked, orders, 1),
    "ways of no batch": lambda asked, orders, plan: ways(asked, orders, 0),
    "latest": lambda asked, orders, plan: latest(asked, orders),
    "last_begin": lambda asked, orders, plan: last_begin(asked, orders, 1),
    "last_begin of no batch": lambda asked, orders, plan: last_begin(asked, orders, 10 ** 40),
    "slack": lambda asked, orders, plan: slack(asked, orders),
    "few": lambda asked, orders, plan: few(asked, orders),
    **PLAN_ASKERS,
}


class Refusals(unittest.TestCase):
    def refuses(self, askers, refusal, asked, orders, plan):
        handed = (asked, orders, plan)
        before = seen(handed)
        for name, ask in askers.items():
            with self.subTest(name=name):
                with self.assertRaises(refusal):
                    ask(asked, orders, plan)
                self.assertEqual(seen(handed), before)


class TestOrders(Refusals):
    def cases(self, night):
        good = Order("rest", 1, 30)
        return (
            (BadCount, [good] * 13),
            (BadCount, [Order("oat", 60, night + 1)] * 13),
            (NoBread, [Order("oat", 1, 30)]),
            (NoBread, [good] * 5 + [Order("oat", 1, 30)]),
            (NoBread, [Order("rest", 1, night + 1), Order("oat", 1, 30)]),
            (NoBread, [Order("rest", 60, -1), Order("rest", 60, 30), Order("oat", 60, 30)]),
            (BeyondNight, [Order("rest", 1, night + 1)]),
            (BeyondNight, [Order("rest", 1, -1)]),
            (BeyondNight, [good] * 11 + [Order("rest", 1, 10 ** 40)]),
            (BeyondNight, [Order("rest", 60, 30), Order("rest", 60, 30), Order("rest", 60, night + 1)]),
            (TooMany, [Order("rest", 60, 30), Order("rest", 60, 30), Order("rest", 1, 30)]),
            (TooMany, [Order("whole", 60, 30), Order("whole", 60, 0), Order("rest", 1, 0)]),
        )

    def test_whatever_the_plan_is(self):
        # The longer nights are more than the planner goes through.
        for night in (100, 120, 121, 720):
            for refusal, orders in self.cases(night):
                runs = [Run(0, [10]) for order in orders]
                for plan in (runs, [], runs + [Run(0, [10])], [Run(0, [], 3)]):
                    self.refuses(ORDER_ASKERS, refusal, bakery(night=night, rooms=(2, 5)), orders, plan)

    def test_a_plan_that_fits_in_number(self):
        orders = [Order("rest", 60, 30), Order("rest", 60, 30), Order("rest", 1, 30)]
        self.refuses(ORDER_ASKERS, TooMany, bakery(night=100, rooms=(2, 5)), orders, [Run(0, [10])] * 25)


class TestPlans(Refusals):
    def test_runs_too_few_and_too_many(self):
        run = Run(0, [10])
        for loaves, count in ((1, 1), (10, 1), (11, 2), (60, 6)):
            for bad in {0, count - 1, count + 1, 2 * count, 24, 25}:
                self.refuses(PLAN_ASKERS, BadPlan, bakery(), [Order("rest", loaves, 30)], [run] * bad)
        self.refuses(PLAN_ASKERS, BadPlan, bakery(), [], [run])
        orders = [Order("rest", 11, 30), Order("rest", 1, 30)]
        for bad in (0, 1, 2, 4):
            self.refuses(PLAN_ASKERS, BadPlan, bakery(), orders, [run] * bad)

    def test_lengths_too_few_and_too_many(self):
        for bread in BREADS:
            count = len(bread.stages)
            oven = 1 if bread.bakes() else 0
            for bad in {0, count - 1, count + 1, count + 2, 7}:
                self.refuses(PLAN_ASKERS, BadPlan, bakery(), [Order(bread.name, 1, 720)], [Run(0, [10] * bad, oven)])

    def test_lengths_of_another_batchs_bread(self):
        orders = [Order("rye", 1, 720), Order("rest", 1, 720)]
        plan = [Run(0, [10]), Run(0, [10, 10, 10], 1)]
        self.refuses(PLAN_ASKERS, BadPlan, bakery(), orders, plan)

    def test_ovens(self):
        for bread, count in itertools.product(BREADS, (1, 2, 3)):
            good = range(1, count + 1) if bread.bakes() else (0,)
            for oven in (0, 1, 2, 3):
                asked, orders = bakery(rooms=(10,) * count), [Order(bread.name, 1, 720)]
                plan = [Run(100, [10] * len(bread.stages), oven)]
                if oven in good:
                    self.assertEqual(held(asked, orders, plan, 99), (0, 0, [0] * count))
                    self.assertEqual(stand(asked, orders, plan, 99), [0])
                    fault(asked, orders, plan)
                else:
                    self.refuses(PLAN_ASKERS, BadPlan, asked, orders, plan)

    def test_at_any_one_of_the_runs(self):
        # Eleven loaves of the first make two batches.
        orders = [Order("rye", 11, 720), Order("rest", 1, 720), Order("bake", 1, 720)]
        good = [Run(0, [10] * 3, 1), Run(0, [10] * 3, 2), Run(0, [10]), Run(0, [10], 2)]
        asked = bakery(rooms=(10, 10))
        self.assertEqual(stand(asked, orders, good, 30), [11, 1, 1])
        for place, run in enumerate(good):
            others = [Run(0, run.lengths + (10,), run.oven), Run(0, run.lengths[1:], run.oven), Run(0, run.lengths, 3)]
            others.append(Run(0, run.lengths, 0 if run.oven else 1))
            for other in others:
                self.refuses(PLAN_ASKERS, BadPlan, asked, orders, good[:place] + [other] + good[place + 1:])

    def test_ahead_of_a_fault(self):
        orders = [Order("rest", 1, 0), Order("rest", 1, 0)]
        self.refuses(PLAN_ASKERS, BadPlan, bakery(), orders, [Run(1440, [720]), Run(1440, [720], 1)])

    def test_what_fits_is_not_refused_for_its_numbers(self):
        orders = [Order("bake", 10, 0)]
        for run in (Run(1440, [720], 2), Run(0, [0], 2)):
            asked = bakery(rooms=(10, 1))
            self.assertEqual(stand(asked, orders, [run], run.end()), [10])
            self.assertIsNotNone(fault(asked, orders, [run]))


if __name__ == "__main__":
    unittest.main()
