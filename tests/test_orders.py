import itertools
import unittest

from doughhours.errors import BadCount, BadNumber, BeyondNight, NoBread, TooMany
from doughhours.orders import Batch, Order, accept, cut, greatest
from samples import FAR, bakery, seen


def fields(order):
    return (order.bread, order.loaves, order.due)


def told(batches):
    return [(batch.order, batch.first, batch.loaves) for batch in batches]


def counted(orders, most):
    """Point 11 loaf by loaf: a full batch is closed, and each order begins a new one."""
    batches = []
    for number, order in enumerate(orders, start=1):
        for loaf in range(1, order.loaves + 1):
            if loaf == 1 or batches[-1][2] == most:
                batches.append((number, loaf, 0))
            number_of, first, loaves = batches[-1]
            batches[-1] = (number_of, first, loaves + 1)
    return batches


class TestOrder(unittest.TestCase):
    def test_every_number_of_loaves(self):
        for loaves in range(1, 61):
            self.assertEqual(fields(Order("rye", loaves, 30)), ("rye", loaves, 30))

    def test_other_numbers_of_loaves(self):
        for loaves in (0, -1, 61, 62) + FAR:
            for name, due in (("rye", 30), ("", -1), ("NO SUCH BREAD", 10 ** 40)):
                with self.assertRaises(BadNumber, msg=loaves):
                    Order(name, loaves, due)

    def test_any_name(self):
        signs = [chr(code) for code in range(ord(" "), ord("~") + 1)]
        for name in ["", "rye", "no such bread", "RYE", "~" * 40, " " * 40] + signs:
            self.assertEqual(fields(Order(name, 1, 0)), (name, 1, 0))

    def test_any_time(self):
        for due in (0, 1, -1, 719, 720, 721, 1440) + FAR:
            self.assertEqual(fields(Order("rye", 60, due)), ("rye", 60, due))

    def test_fields_by_their_names(self):
        self.assertEqual(fields(Order(bread="rye", loaves=2, due=3)), ("rye", 2, 3))

    def test_two_orders_are_apart(self):
        one, other = Order("rye", 1, 2), Order("oat", 3, 4)
        self.assertEqual((fields(one), fields(other)), (("rye", 1, 2), ("oat", 3, 4)))
        self.assertIsNot(Order("rye", 1, 2), Order("rye", 1, 2))


class TestBatch(unittest.TestCase):
    def test_fields(self):
        self.assertEqual(told([Batch(2, 11, 10)]), [(2, 11, 10)])
        self.assertEqual(told([Batch(order=1, first=2, loaves=3)]), [(1, 2, 3)])

    def test_nothing_is_refused(self):
        for number in (0, -1, 13, 61) + FAR:
            self.assertEqual(told([Batch(number, number + 1, number + 2)]), [(number, number + 1, number + 2)])


class TestGreatest(unittest.TestCase):
    def test_the_greatest_room_at_any_place(self):
        for count in (1, 2, 3):
            for rooms in itertools.product((1, 2, 9, 10, 30), repeat=count):
                self.assertEqual(greatest(bakery(rooms=rooms)), max(rooms), rooms)


class TestAccept(unittest.TestCase):
    def takes(self, asked, orders):
        before = seen((asked, orders))
        self.assertIsNone(accept(asked, orders))
        self.assertEqual(seen((asked, orders)), before)

    def refuses(self, refusal, asked, orders):
        before = seen((asked, orders))
        with self.assertRaises(refusal, msg=repr([fields(order) for order in orders])):
            accept(asked, orders)
        self.assertEqual(seen((asked, orders)), before)

    def test_counts(self):
        for count in range(13):
            self.takes(bakery(), [Order("rye", 1, 30) for number in range(count)])
        for count in (13, 14, 24, 25, 100):
            self.refuses(BadCount, bakery(), [Order("rye", 1, 30) for number in range(count)])

    def test_one_order_may_stand_there_twice(self):
        self.takes(bakery(), [Order("rye", 1, 30)] * 12)

    def test_breads(self):
        for name in ("", "oat", "RYE", "ry", "ryes", "rye ", "~" * 40):
            self.refuses(NoBread, bakery(), [Order(name, 1, 30)])
            self.refuses(NoBread, bakery(), [Order("rye", 1, 30)] * 11 + [Order(name, 1, 30)])

    def test_times(self):
        for night in (1, 2, 100, 719, 720):
            for due in {0, 1, night // 2, night - 1, night}:
                self.takes(bakery(night), [Order("rye", 1, due)])
                self.takes(bakery(night), [Order("rye", 1, due)] * 12)
            for due in (-1, -2, night + 1, night + 2) + FAR:
                self.refuses(BeyondNight, bakery(night), [Order("rye", 1, due)])
                self.refuses(BeyondNight, bakery(night), [Order("rye", 1, night)] * 11 + [Order("rye", 1, due)])

    def test_a_time_of_720_in_a_shorter_night(self):
        self.refuses(BeyondNight, bakery(719), [Order("rye", 1, 720)])

    def test_batches(self):
        # The rooms, the loaves of each order, and whether they make more than 24 batches.
        cases = (
            ((1,), [24], False), ((1,), [25], True), ((1,), [60], True),
            ((1,), [2] * 12, False), ((1,), [2] * 11 + [3], True), ((1,), [3] + [2] * 11, True),
            ((2,), [48], False), ((2,), [49], True), ((2,), [47, 1], True), ((2,), [46, 1], False),
            ((30,), [60] * 12, False), ((29,), [60] * 12, True), ((30, 1, 1), [60] * 12, False),
            ((10,), [60, 60, 60, 60], False), ((10,), [60, 60, 60, 60, 1], True), ((1, 10), [60] * 4, False),
            ((7,), [22] * 6, False), ((7,), [22] * 5 + [29], True), ((3,), [60, 12], False), ((3,), [60, 13], True),
        )
        for rooms, loaves, many in cases:
            orders = [Order("rye", number, 30) for number in loaves]
            if many:
                self.refuses(TooMany, bakery(rooms=rooms), orders)
            else:
                self.takes(bakery(rooms=rooms), orders)


class TestWhichGoesFirst(unittest.TestCase):
    """Every pair of refusals that are due together, with each of them at any order."""

    def setUp(self):
        self.bakery = bakery(night=100, rooms=(2, 5))

    def refuses(self, refusal, orders):
        for asked in (accept, cut):
            with self.assertRaises(refusal, msg=repr([fields(order) for order in orders])):
                asked(self.bakery, orders)

    def test_count_ahead_of_all_others(self):
        good = Order("rye", 1, 30)
        for other in (Order("oat", 1, 30), Order("rye", 1, 101), Order("rye", 60, 30), Order("oat", 60, -1)):
            for place in range(13):
                orders = [good] * 13
                orders[place] = other
                self.refuses(BadCount, orders)
            self.refuses(BadCount, [other] * 13)

    def test_bread_ahead_of_time(self):
        self.refuses(NoBread, [Order("oat", 1, 101)])
        for one, other in itertools.permutations(range(12), 2):
            for due in (-1, 101, 10 ** 40):
                orders = [Order("rye", 1, 30)] * 12
                orders[one] = Order("oat", 1, 30)
                orders[other] = Order("rye", 1, due)
                self.refuses(NoBread, orders)

    def test_bread_ahead_of_batches(self):
        for place in range(4):
            orders = [Order("rye", 60, 30)] * 4
            orders[place] = Order("oat", 60, 30)
            self.refuses(NoBread, orders)

    def test_time_ahead_of_batches(self):
        for place in range(4):
            for due in (-1, 101):
                orders = [Order("rye", 60, 30)] * 4
                orders[place] = Order("rye", 60, due)
                self.refuses(BeyondNight, orders)

    def test_three_at_once(self):
        for one, other in itertools.permutations(range(5), 2):
            orders = [Order("rye", 60, 30)] * 5
            orders[one] = Order("oat", 60, 30)
            orders[other] = Order("rye", 60, 101)
            self.refuses(NoBread, orders)
        self.refuses(TooMany, [Order("rye", 60, 30)] * 5)


class TestCut(unittest.TestCase):
    def check(self, rooms, loaves, batches):
        asked = bakery(rooms=rooms)
        orders = [Order("rye", number, 30) for number in loaves]
        before = seen((asked, orders))
        with self.subTest(rooms=rooms, loaves=loaves):
            made = cut(asked, orders)
            self.assertIs(type(made), list)
            self.assertEqual(told(made), batches)
            for batch in made:
                self.assertIsInstance(batch, Batch)
            self.assertEqual(seen((asked, orders)), before)

    def test_without_orders(self):
        self.check((10,), [], [])

    def test_round_multiples_of_the_greatest_room(self):
        self.check((10,), [9], [(1, 1, 9)])
        self.check((10,), [10], [(1, 1, 10)])
        self.check((10,), [11], [(1, 1, 10), (1, 11, 1)])
        self.check((10,), [29], [(1, 1, 10), (1, 11, 10), (1, 21, 9)])
        self.check((10,), [30], [(1, 1, 10), (1, 11, 10), (1, 21, 10)])
        self.check((10,), [31], [(1, 1, 10), (1, 11, 10), (1, 21, 10), (1, 31, 1)])
        self.check((30,), [60], [(1, 1, 30), (1, 31, 30)])
        self.check((1,), [3], [(1, 1, 1), (1, 2, 1), (1, 3, 1)])

    def test_several_orders_in_turn(self):
        self.check((10,), [12, 1, 20], [(1, 1, 10), (1, 11, 2), (2, 1, 1), (3, 1, 10), (3, 11, 10)])
        self.check((5, 2, 4), [7, 5, 4], [(1, 1, 5), (1, 6, 2), (2, 1, 5), (3, 1, 4)])
        self.check((2, 5), [5, 6], [(1, 1, 5), (2, 1, 5), (2, 6, 1)])

    def test_against_counting(self):
        for rooms in ((3,), (4, 7), (1, 2, 5), (30, 29, 28), (11, 13, 12)):
            most = max(rooms)
            for loaves in itertools.product((1, most - 1, most, most + 1, 2 * most), repeat=3):
                loaves = [max(1, min(60, number)) for number in loaves]
                self.check(rooms, loaves, counted([Order("rye", number, 30) for number in loaves], most))

    def test_one_batch_size_for_every_bread(self):
        names = ("rest", "knead", "bake", "whole")
        made = cut(bakery(rooms=(4, 9)), [Order(name, 10, 30) for name in names])
        self.assertEqual(told(made), [(number, first, loaves) for number in (1, 2, 3, 4)
                                      for first, loaves in ((1, 9), (10, 1))])

    def test_twenty_four_batches(self):
        self.check((1,), [24], [(1, loaf, 1) for loaf in range(1, 25)])
        with self.assertRaises(TooMany):
            cut(bakery(rooms=(1,)), [Order("rye", 25, 30)])

    def test_the_told_list_belongs_to_the_caller(self):
        asked, orders = bakery(), [Order("rye", 12, 30), Order("rest", 3, 40)]
        first = cut(asked, orders)
        first.reverse()
        first.pop()
        first.append(None)
        second = cut(asked, orders)
        self.assertEqual(told(second), [(1, 1, 10), (1, 11, 2), (2, 1, 3)])
        self.assertIsNot(second[0], first[1])
        orders.clear()
        self.assertEqual(told(second), [(1, 1, 10), (1, 11, 2), (2, 1, 3)])
        self.assertEqual(cut(asked, orders), [])

    def test_a_refusal_changes_no_later_answer(self):
        asked = bakery()
        with self.assertRaises(NoBread):
            cut(asked, [Order("rye", 3, 30), Order("oat", 3, 30)])
        self.assertEqual(told(cut(asked, [Order("rye", 3, 30)])), [(1, 1, 3)])


if __name__ == "__main__":
    unittest.main()
