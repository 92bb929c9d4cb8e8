import itertools
import random
import unittest

from doughhours.bakery import Bakery
from doughhours.board import board
from doughhours.breads import Bread, Stage
from doughhours.faults import fault
from doughhours.orders import Order
from doughhours.ovens import Oven
from doughhours.plans import Run
from models import batches_of, drawn, stages_of
from samples import BREADS, bakery, placed, seen

LOAF = Bread("loaf", [
    Stage("mixing", 10, 15, "hands"),
    Stage("rising", 20, 40, "nothing"),
    Stage("shaping", 5, 10, "bench"),
    Stage("baking", 30, 40, "oven", 230),
])
BUN = Bread("bun", [Stage("rolling", 5, 10, "hands", 99), Stage("drying", 5, 10, "nothing")])
DOUBLE = Bread("double", [Stage("first", 5, 10, "oven", 0), Stage("second", 5, 10, "oven", 300)])


def house(night=120, ovens=((10, 10, 230), (10, 10, 230))):
    return Bakery(night, 1, 1, [Oven(*oven) for oven in ovens], [LOAF, BUN, DOUBLE])


def text_of(minute):
    return str(minute // 60) + ":" + str(minute % 60 // 10) + str(minute % 10)


def written(asked, orders, plan):
    """Point 28 minute by minute: each row is written when its minute and its batch have come."""
    rows = ["night to " + text_of(asked.night)]
    batches = batches_of(asked, orders)
    for minute in range(max([run.end() for run in plan], default=-1) + 1):
        for number, (run, (order, loaves)) in enumerate(zip(plan, batches), start=1):
            now = run.begin
            for stage, length in zip(stages_of(asked, orders[order - 1]), run.lengths):
                want = f"oven {run.oven} at {stage.heat}" if stage.want == "oven" else stage.want
                if now == minute:
                    rows.append(f"{text_of(minute)} batch {number} {stage.name} {want}")
                now += length
            if now == minute:
                name = orders[order - 1].bread
                rows.append(f"{text_of(minute)} batch {number} door {loaves} {name} for order {order}")
    found = fault(asked, orders, plan)
    last = "all is well"
    if found is not None:
        last = f"fault at {text_of(found[0])}: {found[1]} {found[2]}"
    return rows + [last]


class TestBoard(unittest.TestCase):
    def tells(self, asked, orders, plan, answer):
        handed = (asked, orders, plan)
        before = seen(handed)
        told = board(asked, orders, plan)
        self.assertIs(type(told), list)
        self.assertEqual(told, answer)
        self.assertEqual(written(asked, orders, plan), answer)
        self.assertEqual(board(asked, orders, plan), answer)
        self.assertEqual(seen(handed), before)

    def test_without_orders(self):
        for night, text in ((1, "0:01"), (9, "0:09"), (59, "0:59"), (60, "1:00"), (120, "2:00"), (720, "12:00")):
            self.tells(house(night), [], [], ["night to " + text, "all is well"])

    def test_one_batch(self):
        self.tells(house(), placed(("loaf", 90, 7)), [Run(5, [10, 20, 5, 40], 2)], [
            "night to 2:00",
            "0:05 batch 1 mixing hands",
            "0:15 batch 1 rising nothing",
            "0:35 batch 1 shaping bench",
            "0:40 batch 1 baking oven 2 at 230",
            "1:20 batch 1 door 7 loaf for order 1",
            "all is well",
        ])

    def test_a_bread_that_does_not_bake(self):
        self.tells(house(), placed(("bun", 10)), [Run(0, [5, 5])], [
            "night to 2:00",
            "0:00 batch 1 rolling hands",
            "0:05 batch 1 drying nothing",
            "0:10 batch 1 door 1 bun for order 1",
            "all is well",
        ])

    def test_heats_at_their_bounds(self):
        self.tells(house(ovens=[(10, 300, 0)]), placed(("double", 90, 10)), [Run(0, [5, 5], 1)], [
            "night to 2:00",
            "0:00 batch 1 first oven 1 at 0",
            "0:05 batch 1 second oven 1 at 300",
            "0:10 batch 1 door 10 double for order 1",
            "fault at 0:05: heat 1",
        ])

    def test_each_oven(self):
        for oven in (1, 2, 3):
            asked = house(ovens=[(10, 10, 230)] * 3)
            told = board(asked, placed(("loaf", 120)), [Run(0, [10, 20, 5, 30], oven)])
            self.assertEqual(told[4], f"0:35 batch 1 baking oven {oven} at 230")

    def test_batches_and_orders_are_numbered_apart(self):
        orders = placed(("bun", 60, 25), ("bun", 60, 4))
        plan = [Run(0, [5, 10]), Run(5, [5, 10]), Run(10, [5, 10]), Run(15, [5, 5])]
        self.tells(house(), orders, plan, [
            "night to 2:00",
            "0:00 batch 1 rolling hands",
            "0:05 batch 1 drying nothing",
            "0:05 batch 2 rolling hands",
            "0:10 batch 2 drying nothing",
            "0:10 batch 3 rolling hands",
            "0:15 batch 1 door 10 bun for order 1",
            "0:15 batch 3 drying nothing",
            "0:15 batch 4 rolling hands",
            "0:20 batch 2 door 10 bun for order 1",
            "0:20 batch 4 drying nothing",
            "0:25 batch 3 door 5 bun for order 1",
            "0:25 batch 4 door 4 bun for order 2",
            "all is well",
        ])

    def test_a_later_batch_that_begins_earlier(self):
        self.tells(house(), placed(("bun", 60), ("double", 60), ("bun", 60)),
                   [Run(30, [5, 5]), Run(20, [5, 5], 1), Run(0, [5, 5])], [
            "night to 2:00",
            "0:00 batch 3 rolling hands",
            "0:05 batch 3 drying nothing",
            "0:10 batch 3 door 1 bun for order 3",
            "0:20 batch 2 first oven 1 at 0",
            "0:25 batch 2 second oven 1 at 300",
            "0:30 batch 1 rolling hands",
            "0:30 batch 2 door 1 double for order 2",
            "0:35 batch 1 drying nothing",
            "0:40 batch 1 door 1 bun for order 1",
            "fault at 0:20: heat 1",
        ])

    def test_stages_of_length_0(self):
        # By their words alone these rows would stand in another order than the run's.
        self.tells(house(), placed(("loaf", 90), ("bun", 90)), [Run(20, [0, 0, 0, 0], 1), Run(20, [0, 0])], [
            "night to 2:00",
            "0:20 batch 1 mixing hands",
            "0:20 batch 1 rising nothing",
            "0:20 batch 1 shaping bench",
            "0:20 batch 1 baking oven 1 at 230",
            "0:20 batch 1 door 1 loaf for order 1",
            "0:20 batch 2 rolling hands",
            "0:20 batch 2 drying nothing",
            "0:20 batch 2 door 1 bun for order 2",
            "fault at 0:20: short 1",
        ])

    def test_some_stages_of_length_0(self):
        for lengths in itertools.product((0, 10), repeat=4):
            asked, orders = house(), placed(("loaf", 90), ("bun", 90), ("loaf", 90))
            plan = [Run(20, lengths, 1), Run(30, [0, 10]), Run(20, lengths[::-1], 2)]
            self.tells(asked, orders, plan, written(asked, orders, plan))

    def test_more_than_nine_batches(self):
        # The numbers count, not their texts.
        told = board(house(), placed(*[("bun", 60)] * 12), [Run(0, [5, 5])] * 12)
        rows = [f"0:00 batch {number} rolling hands" for number in range(1, 13)]
        self.assertEqual(told[1:13], rows)
        self.assertEqual(told[-1], "fault at 0:00: hands 0")

    def test_minutes_rise_by_number(self):
        told = board(house(720), placed(("bun", 720), ("bun", 720), ("bun", 720)),
                     [Run(660, [5, 5]), Run(540, [5, 5]), Run(75, [5, 5])])
        self.assertEqual([row.split()[0] for row in told[1:-1]],
                         ["1:15", "1:20", "1:25", "9:00", "9:05", "9:10", "11:00", "11:05", "11:10"])

    def test_far_behind_the_night(self):
        self.tells(house(), placed(("bun", 60)), [Run(1440, [720, 720])], [
            "night to 2:00",
            "24:00 batch 1 rolling hands",
            "36:00 batch 1 drying nothing",
            "48:00 batch 1 door 1 bun for order 1",
            "fault at 1:00: door 1",
        ])

    def test_each_fault(self):
        for orders, plan, last in (
            (placed(("bun", 9)), [Run(0, [5, 5])], "fault at 0:09: door 1"),
            (placed(("bun", 60), ("bun", 90)), [Run(20, [5, 5]), Run(60, [4, 5])], "fault at 1:04: short 2"),
            (placed(("bun", 90)), [Run(60, [5, 11])], "fault at 1:15: long 1"),
            (placed(("bun", 90), ("bun", 90)), [Run(60, [5, 5]), Run(64, [5, 5])], "fault at 1:04: hands 0"),
            (placed(("loaf", 120), ("loaf", 120)), [Run(0, [10, 20, 10, 30], 1), Run(10, [10, 15, 5, 30], 2)],
             "fault at 0:35: short 2"),
            (placed(("loaf", 120), ("loaf", 120)), [Run(0, [10, 30, 10, 30], 1), Run(10, [10, 25, 5, 30], 2)],
             "fault at 0:45: bench 0"),
            (placed(("loaf", 120, 6), ("loaf", 120, 6)), [Run(0, [10, 20, 10, 40], 2), Run(10, [10, 20, 10, 40], 2)],
             "fault at 0:50: room 2"),
            (placed(("double", 120)), [Run(60, [5, 5], 2)], "fault at 1:05: heat 2"),
            (placed(("loaf", 120)), [Run(0, [10, 20, 5, 30], 1)], "all is well"),
        ):
            told = board(house(), orders, plan)
            self.assertEqual(told[-1], last)
            self.assertEqual(told, written(house(), orders, plan))

    def test_the_told_list_belongs_to_the_caller(self):
        asked, orders, plan = house(), placed(("bun", 10)), [Run(0, [5, 5])]
        answer = written(asked, orders, plan)
        told = board(asked, orders, plan)
        told[0] = "night to 9:99"
        told.append("more")
        self.assertEqual(board(asked, orders, plan), answer)
        board(asked, orders, plan).clear()
        self.assertEqual(board(asked, orders, plan), answer)

    def test_by_their_names(self):
        self.assertEqual(board(bakery=house(), orders=[], plan=[]), ["night to 2:00", "all is well"])

    def test_drawn_plans(self):
        chance = random.Random(28)
        well = 0
        for case in range(1000):
            asked, orders, plan = drawn(chance)
            answer = written(asked, orders, plan)
            self.assertEqual(board(asked, orders, plan), answer, case)
            well += answer[-1] == "all is well"
        self.assertTrue(100 < well < 900, well)

    def test_the_sample_breads(self):
        for bread in BREADS:
            plan = [Run(0, [10] * len(bread.stages), 1 if bread.bakes() else 0)]
            self.tells(bakery(), [Order(bread.name, 10, 720)], plan,
                       written(bakery(), [Order(bread.name, 10, 720)], plan))


if __name__ == "__main__":
    unittest.main()
