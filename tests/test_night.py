import random
import unittest

from doughhours.board import board
from doughhours.errors import BadCount, BadNumber, BeyondNight, NoBread, NoOrder, NoPlan, TooMany, TooWide
from doughhours.faults import fault
from doughhours.night import Night
from doughhours.orders import Order
from doughhours.planner import few, latest
from doughhours.plans import Run
from models import Search, as_tuples
from samples import FAR, placed, seen, shop

BREADS = {
    "rest": [(5, 5, "nothing", 0)],
    "knead": [(10, 10, "hands", 0)],
    "bake": [(10, 10, "oven", 200)],
    "odd": [(6, 9, "nothing", 0)],
    "five": [(5, 5, "nothing", 0)] * 5,
}


def book(night):
    return [(order.bread, order.loaves, order.due) for order in night.orders]


class Nights(unittest.TestCase):
    def setUp(self):
        self.bakery = shop(BREADS)

    def holds(self, night, *rows):
        """rows: the bread, the loaves and the time of each order that stands in the book."""
        self.assertIs(type(night.orders), list)
        self.assertEqual({type(order) for order in night.orders} - {Order}, set())
        self.assertEqual(book(night), list(rows))

    def refuses(self, night, refusal, ask, *handed):
        before = seen(night)
        with self.assertRaises(refusal, msg=repr(handed)):
            ask(*handed)
        self.assertEqual(seen(night), before)

    def tells_plan(self, night, begins):
        before = seen(night)
        told = night.told()
        self.assertIs(type(told), tuple)
        self.assertEqual((len(told), told[0]), (2, "plan"))
        self.assertIs(type(told[1]), list)
        self.assertEqual([run.begin for run in told[1]], begins)
        self.assertIn(as_tuples(told[1]), Search(night.bakery, night.orders).good)
        self.assertIsNone(fault(night.bakery, night.orders, told[1]))
        page = night.page()
        self.assertIs(type(page), list)
        self.assertEqual(page, board(night.bakery, night.orders, latest(night.bakery, night.orders)))
        self.assertEqual(page[-1], "all is well")
        self.assertEqual(seen(night), before)

    def tells_few(self, night, numbers):
        before = seen(night)
        told = night.told()
        self.assertIs(type(told), tuple)
        self.assertIs(type(told[1]), list)
        self.assertEqual(told, ("few", numbers))
        page = night.page()
        self.assertIs(type(page), list)
        self.assertEqual(page, ["no plan for orders " + " ".join(str(number) for number in numbers)])
        self.assertEqual(seen(night), before)

    def too_wide(self, night):
        self.refuses(night, TooWide, night.told)
        self.refuses(night, TooWide, night.page)


class TestPut(Nights):
    def test_begins_without_orders(self):
        night = Night(self.bakery)
        self.holds(night)
        self.assertIs(night.bakery, self.bakery)
        self.assertIs(Night(bakery=self.bakery).bakery, self.bakery)

    def test_behind_the_others(self):
        night = Night(self.bakery)
        self.assertEqual(night.put("rest", 3, 60), 1)
        self.holds(night, ("rest", 3, 60))
        self.assertEqual(night.put("bake", 1, 0), 2)
        self.holds(night, ("rest", 3, 60), ("bake", 1, 0))
        self.assertEqual(night.put("rest", 3, 60), 3)
        self.holds(night, ("rest", 3, 60), ("bake", 1, 0), ("rest", 3, 60))
        self.assertEqual(night.put(bread="odd", loaves=60, due=59), 4)
        self.holds(night, ("rest", 3, 60), ("bake", 1, 0), ("rest", 3, 60), ("odd", 60, 59))

    def test_twelve_and_no_more(self):
        night = Night(self.bakery)
        for number in range(1, 13):
            self.assertEqual(night.put("rest", number, 60 - number), number)
        rows = [("rest", number, 60 - number) for number in range(1, 13)]
        self.holds(night, *rows)
        for handed in (("rest", 1, 60), ("oat", 1, 60), ("rest", 1, 61), ("rest", 60, 60), ("oat", 60, -1)):
            self.refuses(night, BadCount, night.put, *handed)
        self.holds(night, *rows)

    def test_other_loaves(self):
        night = Night(self.bakery)
        night.put("rest", 1, 60)
        for loaves in (0, -1, 61, 62) + FAR:
            self.refuses(night, BadNumber, night.put, "rest", loaves, 60)
        for loaves in (1, 60):
            night.put("rest", loaves, 60)
        self.holds(night, ("rest", 1, 60), ("rest", 1, 60), ("rest", 60, 60))

    def test_loaves_go_ahead_of_point_10(self):
        for count in (0, 1, 11, 12):
            night = Night(self.bakery)
            for number in range(count):
                night.put("rest", 1, 60)
            for loaves in (0, 61):
                for name, due in (("rest", 60), ("oat", 60), ("rest", 61), ("rest", -1), ("oat", 10 ** 40)):
                    self.refuses(night, BadNumber, night.put, name, loaves, due)
        night = Night(shop(BREADS, ovens=[(1, 10, 200)]))
        night.put("rest", 24, 60)
        for loaves in (0, 61):
            self.refuses(night, BadNumber, night.put, "rest", loaves, 60)

    def test_breads(self):
        night = Night(self.bakery)
        for name in ("", "oat", "REST", "rest ", "~" * 40):
            for loaves, due in ((1, 60), (60, 61), (1, -1), (1, 10 ** 40)):
                self.refuses(night, NoBread, night.put, name, loaves, due)

    def test_times(self):
        night = Night(self.bakery)
        for due in (-1, 61, 62) + FAR:
            self.refuses(night, BeyondNight, night.put, "rest", 1, due)
        for due in (0, 1, 59, 60):
            night.put("rest", 1, due)
        self.holds(night, ("rest", 1, 0), ("rest", 1, 1), ("rest", 1, 59), ("rest", 1, 60))

    def test_batches(self):
        night = Night(shop(BREADS, ovens=[(2, 10, 200), (1, 10, 200)]))
        night.put("rest", 46, 60)
        self.refuses(night, TooMany, night.put, "rest", 3, 60)
        self.refuses(night, TooMany, night.put, "rest", 60, 60)
        self.refuses(night, BeyondNight, night.put, "rest", 60, 61)
        self.refuses(night, NoBread, night.put, "oat", 60, 61)
        self.assertEqual(night.put("rest", 2, 60), 2)
        self.refuses(night, TooMany, night.put, "rest", 1, 60)
        self.assertEqual(night.strike(2), 1)
        self.assertEqual(night.put("rest", 1, 60), 2)
        self.holds(night, ("rest", 46, 60), ("rest", 1, 60))

    def test_what_the_planner_refuses_is_put(self):
        night = Night(shop(BREADS, night=720))
        for number, name in enumerate(("five", "rest", "odd", "bake"), start=1):
            self.assertEqual(night.put(name, 60, 720), number)


class TestStrike(Nights):
    def filled(self):
        night = Night(self.bakery)
        for number in range(1, 5):
            night.put("rest", number, 60)
        return night

    def test_each_place(self):
        for number in range(1, 5):
            night = self.filled()
            self.assertEqual(night.strike(number), 3)
            self.holds(night, *[("rest", other, 60) for other in range(1, 5) if other != number])

    def test_those_behind_move_up(self):
        night = self.filled()
        self.assertEqual([night.strike(2), night.strike(2)], [3, 2])
        self.holds(night, ("rest", 1, 60), ("rest", 4, 60))
        self.assertEqual(night.put("bake", 5, 30), 3)
        self.assertEqual([night.strike(1), night.strike(number=1), night.strike(1)], [2, 1, 0])
        self.holds(night)
        self.assertEqual(night.put("bake", 6, 30), 1)

    def test_other_numbers(self):
        night = self.filled()
        for number in (0, -1, -4, 5, 6) + FAR:
            self.refuses(night, NoOrder, night.strike, number)
        night.strike(4)
        self.refuses(night, NoOrder, night.strike, 4)

    def test_an_empty_book(self):
        night = Night(self.bakery)
        for number in (0, 1, -1, 2) + FAR:
            self.refuses(night, NoOrder, night.strike, number)
        night.put("rest", 1, 60)
        night.strike(1)
        for number in (0, 1, -1):
            self.refuses(night, NoOrder, night.strike, number)


class TestApart(Nights):
    def test_two_nights_of_one_bakery(self):
        one, other = Night(self.bakery), Night(self.bakery)
        before = seen(self.bakery)
        one.put("rest", 1, 60)
        self.holds(other)
        other.put("knead", 2, 50)
        other.put("knead", 3, 40)
        self.holds(one, ("rest", 1, 60))
        one.strike(1)
        self.holds(one)
        self.holds(other, ("knead", 2, 50), ("knead", 3, 40))
        self.tells_plan(one, [])
        self.tells_plan(other, [40, 30])
        self.assertEqual(seen(self.bakery), before)

    def test_a_list_read_earlier_stays_as_it_was(self):
        night = Night(self.bakery)
        none = night.orders
        night.put("rest", 1, 60)
        one = night.orders
        night.put("rest", 2, 60)
        night.strike(1)
        self.assertEqual((none, [order.loaves for order in one]), ([], [1]))
        self.holds(night, ("rest", 2, 60))

    def test_an_order_keeps_to_its_night(self):
        night = Night(self.bakery)
        night.put("rest", 1, 60)
        first = night.orders[0]
        night.put("rest", 2, 60)
        self.assertEqual((first.bread, first.loaves, first.due), ("rest", 1, 60))


class TestToldAndPage(Nights):
    def test_without_orders(self):
        night = Night(self.bakery)
        self.tells_plan(night, [])
        self.assertEqual(night.told(), ("plan", []))
        self.assertEqual(night.page(), ["night to 1:00", "all is well"])

    def test_a_plan_and_its_page(self):
        night = Night(self.bakery)
        night.put("knead", 4, 60)
        night.put("bake", 11, 45)
        self.assertEqual(as_tuples(night.told()[1]), [(50, (10,), 0), (35, (10,), 1), (25, (10,), 1)])
        self.assertEqual(night.page(), [
            "night to 1:00",
            "0:25 batch 3 work oven 1 at 200",
            "0:35 batch 2 work oven 1 at 200",
            "0:35 batch 3 door 1 bake for order 2",
            "0:45 batch 2 door 10 bake for order 2",
            "0:50 batch 1 work hands",
            "1:00 batch 1 door 4 knead for order 1",
            "all is well",
        ])

    def test_no_plan_and_its_page(self):
        night = Night(self.bakery)
        night.put("knead", 1, 10)
        night.put("rest", 1, 60)
        self.tells_plan(night, [0, 55])
        night.put("knead", 1, 10)
        self.tells_few(night, [1, 3])
        self.assertEqual(night.page(), ["no plan for orders 1 3"])
        night.strike(2)
        self.tells_few(night, [1, 2])
        self.assertEqual(night.page(), ["no plan for orders 1 2"])
        night.strike(1)
        self.tells_plan(night, [0])

    def test_one_order_and_three(self):
        night = Night(self.bakery)
        night.put("odd", 1, 60)
        self.tells_few(night, [1])
        self.assertEqual(night.page(), ["no plan for orders 1"])
        night.strike(1)
        for number in range(3):
            night.put("knead", 1, 25)
        self.tells_few(night, [1, 2, 3])
        self.assertEqual(night.page(), ["no plan for orders 1 2 3"])

    def test_behind_each_change_and_each_refusal(self):
        night = Night(self.bakery)
        night.put("knead", 1, 20)
        self.tells_plan(night, [10])
        self.refuses(night, BadNumber, night.put, "knead", 0, 20)
        self.refuses(night, NoBread, night.put, "oat", 1, 20)
        self.tells_plan(night, [10])
        night.put("knead", 1, 20)
        self.tells_plan(night, [10, 0])
        self.refuses(night, BeyondNight, night.put, "knead", 1, 61)
        self.refuses(night, NoOrder, night.strike, 3)
        self.tells_plan(night, [10, 0])
        night.put("knead", 1, 20)
        self.tells_few(night, [1, 2, 3])
        self.refuses(night, NoOrder, night.strike, 0)
        self.refuses(night, BadNumber, night.put, "knead", 61, 20)
        self.tells_few(night, [1, 2, 3])
        night.strike(3)
        self.tells_plan(night, [10, 0])

    def test_too_wide(self):
        for length in (121, 720):
            night = Night(shop(BREADS, night=length))
            self.too_wide(night)
            night.put("rest", 1, 5)
            self.too_wide(night)
        night = Night(shop(BREADS, night=120))
        for number in range(3):
            night.put("rest", 1, 60)
        self.tells_plan(night, [55, 55, 55])
        night.put("rest", 1, 0)
        self.too_wide(night)
        night.strike(1)
        self.tells_few(night, [3])
        night.strike(3)
        night.put("five", 1, 0)
        self.too_wide(night)
        night.strike(3)
        self.tells_plan(night, [55, 55])
        night.put("rest", 21, 60)
        self.too_wide(night)
        for number in range(3):
            night.strike(1)
        self.tells_plan(night, [])
        for number in range(3):
            night.put("rest", 1, 120)
        self.too_wide(night)

    def test_the_told_lists_belong_to_the_caller(self):
        night = Night(self.bakery)
        night.put("knead", 1, 20)
        night.told()[1].clear()
        plan = night.told()[1]
        plan[0] = Run(0, [10])
        plan.append(Run(0, [10]))
        page = night.page()
        page[0] = "night to 9:99"
        page.append("more")
        self.tells_plan(night, [10])
        self.assertEqual(night.page()[0], "night to 1:00")
        night.put("odd", 1, 20)
        night.told()[1].append(1)
        night.page().clear()
        night.told()[1][0] = 1
        self.tells_few(night, [2])
        self.holds(night, ("knead", 1, 20), ("odd", 1, 20))


class TestDrawnTurns(Nights):
    def step(self, chance, night, rows):
        """One put or strike, right or wrong; rows is what the book should hold."""
        if chance.random() < 0.3:
            number = chance.randint(0, len(rows) + 1)
            if not 1 <= number <= len(rows):
                self.refuses(night, NoOrder, night.strike, number)
            else:
                self.assertEqual(night.strike(number), len(rows) - 1)
                rows.pop(number - 1)
            return
        names = ("rest", "rest", "knead", "knead", "knead", "bake", "bake", "bake", "odd", "oat")
        row = (chance.choice(names), chance.choice((1, 2, 3, 4, 5, 6, 7, 10, 0, 61)),
               chance.choice((10, 15, 20, 25, 10, 15, 20, 25, 61)))
        if row[1] in (0, 61):
            self.refuses(night, BadNumber, night.put, *row)
        elif row[0] == "oat":
            self.refuses(night, NoBread, night.put, *row)
        elif row[2] == 61:
            self.refuses(night, BeyondNight, night.put, *row)
        else:
            rows.append(row)
            self.assertEqual(night.put(*row), len(rows))

    def answers(self, night, rows):
        """The kind of answer that is due, and got."""
        orders = placed(*[(name, due, loaves) for name, loaves, due in rows])
        if len(orders) > 3:
            self.too_wide(night)
            return "wide"
        search = Search(night.bakery, orders)
        if search.good:
            self.tells_plan(night, search.begins())
            return "plan"
        with self.assertRaises(NoPlan):
            latest(night.bakery, orders)
        self.tells_few(night, few(night.bakery, orders))
        return "few"

    def test_turns(self):
        chance = random.Random(29)
        kinds = []
        for case in range(40):
            nights = [(Night(self.bakery), []), (Night(self.bakery), [])]
            for turn in range(16):
                night, rows = chance.choice(nights)
                self.step(chance, night, rows)
                for night, rows in nights:
                    self.holds(night, *rows)
                kinds.append(self.answers(*chance.choice(nights)))
        for kind in ("plan", "few", "wide"):
            self.assertGreater(kinds.count(kind), 20, kind)


if __name__ == "__main__":
    unittest.main()
