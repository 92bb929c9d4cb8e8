import itertools
import unittest

from doughhours.errors import BadNumber
from doughhours.orders import Order
from doughhours.plans import Run, held, stand
from samples import FAR, bakery, seen


def fields(run):
    return (run.begin, run.lengths, run.oven)


class TestRun(unittest.TestCase):
    def refuses(self, *handed):
        with self.assertRaises(BadNumber, msg=repr(handed)):
            Run(*handed)

    def test_fields(self):
        run = Run(30, [5, 10, 15], 2)
        self.assertEqual(fields(run), (30, (5, 10, 15), 2))
        self.assertIs(type(run.lengths), tuple)
        self.assertEqual(fields(Run(begin=1, lengths=[2], oven=3)), (1, (2,), 3))

    def test_oven_is_nought_where_it_is_left_out(self):
        self.assertEqual(fields(Run(30, [5])), (30, (5,), 0))
        self.assertEqual(fields(Run(begin=30, lengths=[])), (30, (), 0))

    def test_numbers_at_their_bounds(self):
        for begin, length, oven in itertools.product((0, 1, 1439, 1440), (0, 1, 719, 720), (0, 1, 2, 3)):
            self.assertEqual(fields(Run(begin, [length] * 6, oven)), (begin, (length,) * 6, oven))

    def test_a_number_below_0_at_each_place(self):
        for bad in (-1, -2, -5, -(10 ** 5), -(10 ** 20), -(10 ** 40)):
            self.refuses(bad, [1, 2, 3], 1)
            self.refuses(bad, [])
            self.refuses(bad, [0])
            self.refuses(0, [1, 2, 3], bad)
            self.refuses(0, [], bad)
            for count in range(1, 7):
                for place in range(count):
                    lengths = [0] * count
                    lengths[place] = bad
                    self.refuses(0, lengths)
                    self.refuses(1440, [720 + length for length in lengths[:place]] + lengths[place:], 3)
            self.refuses(bad, [bad], bad)

    def test_a_refusal_leaves_the_handed_list_as_it_is(self):
        lengths = [1, -1, 2]
        self.refuses(0, lengths)
        self.assertEqual(lengths, [1, -1, 2])

    def test_stays_as_it_was_made(self):
        lengths = [10, 20]
        run = Run(5, lengths, 1)
        self.assertEqual(lengths, [10, 20])
        lengths[0] = 99
        lengths.append(30)
        self.assertEqual((fields(run), run.end(), run.spans()), ((5, (10, 20), 1), 35, [(5, 15), (15, 35)]))
        lengths.clear()
        self.assertEqual((fields(run), run.end(), run.spans()), ((5, (10, 20), 1), 35, [(5, 15), (15, 35)]))

    def test_two_runs_are_apart(self):
        lengths = [10]
        one = Run(1, lengths, 1)
        lengths.append(20)
        other = Run(2, lengths)
        self.assertEqual((fields(one), fields(other)), ((1, (10,), 1), (2, (10, 20), 0)))


class TestEndAndSpans(unittest.TestCase):
    def check(self, run, spans, end):
        # Asked twice: neither answer changes the other, nor the run.
        for time in range(2):
            self.assertEqual(run.end(), end)
            self.assertIs(type(run.spans()), list)
            self.assertEqual(run.spans(), spans)
            for span in run.spans():
                self.assertIs(type(span), tuple)

    def test_no_stage(self):
        for begin in (0, 1, 77, 1440):
            self.check(Run(begin, []), [], begin)

    def test_one_stage(self):
        self.check(Run(0, [10]), [(0, 10)], 10)
        self.check(Run(7, [1]), [(7, 8)], 8)
        self.check(Run(1440, [720], 3), [(1440, 2160)], 2160)

    def test_six_stages(self):
        self.check(Run(3, [1, 2, 3, 4, 5, 6], 1), [(3, 4), (4, 6), (6, 9), (9, 13), (13, 18), (18, 24)], 24)
        self.check(Run(1440, [720] * 6), [(1440 + 720 * k, 2160 + 720 * k) for k in range(6)], 5760)

    def test_stages_of_length_0(self):
        self.check(Run(4, [0]), [(4, 4)], 4)
        self.check(Run(0, [0, 0]), [(0, 0), (0, 0)], 0)
        self.check(Run(4, [0, 5, 0, 6, 0]), [(4, 4), (4, 9), (9, 9), (9, 15), (15, 15)], 15)

    def test_the_told_list_belongs_to_the_caller(self):
        run = Run(5, [10, 20])
        first = run.spans()
        first[0] = (0, 0)
        first.append((1, 2))
        self.check(run, [(5, 15), (15, 35)], 35)
        run.spans().clear()
        self.check(run, [(5, 15), (15, 35)], 35)


class Minutes(unittest.TestCase):
    def compare(self, ask, asked, orders, plan, cases):
        handed = (asked, orders, plan)
        before = seen(handed)
        for minute, answer in cases:
            with self.subTest(minute=minute):
                # A list and a tuple are never equal, so this holds their kinds too.
                self.assertEqual(ask(asked, orders, plan, minute), answer)
                self.assertEqual(seen(handed), before)


class TestHeld(Minutes):
    def check(self, asked, orders, plan, cases):
        self.compare(held, asked, orders, plan, cases)

    def test_without_orders(self):
        for count in (1, 2, 3):
            nothing = (0, 0, [0] * count)
            self.check(bakery(rooms=(10,) * count), [], [], [(minute, nothing) for minute in (0, -1, 5) + FAR])

    def test_one_stage_at_its_edges(self):
        cases = (
            ("rest", 0, (0, 0, [0, 0])), ("knead", 0, (1, 0, [0, 0])), ("shape", 0, (0, 1, [0, 0])),
            ("bake", 1, (0, 0, [7, 0])), ("bake", 2, (0, 0, [0, 7])),
        )
        nothing = (0, 0, [0, 0])
        for name, oven, answer in cases:
            for begin, length in ((0, 10), (30, 15), (30, 1), (700, 40), (1440, 720)):
                with self.subTest(name=name, begin=begin, length=length):
                    self.check(bakery(rooms=(10, 10)), [Order(name, 7, 60)], [Run(begin, [length], oven)], (
                        (begin - 1, nothing), (begin, answer), (begin + length - 1, answer),
                        (begin + length, nothing), (begin + length + 1, nothing), (-1, nothing),
                    ))

    def test_a_stage_of_length_0_holds_nothing(self):
        for name, oven in (("knead", 0), ("shape", 0), ("bake", 1)):
            nothing = (0, 0, [0])
            self.check(bakery(), [Order(name, 7, 60)], [Run(30, [0], oven)],
                       [(minute, nothing) for minute in (0, 29, 30, 31)])
        self.check(bakery(), [Order("rye", 7, 60)], [Run(30, [10, 0, 10], 1)],
                   ((39, (1, 0, [0])), (40, (0, 0, [7])), (49, (0, 0, [7])), (50, (0, 0, [0]))))

    def test_one_stage_behind_another(self):
        self.check(bakery(), [Order("whole", 3, 90)], [Run(5, [1, 2, 3, 4, 5, 6], 1)], (
            (4, (0, 0, [0])), (5, (0, 0, [0])), (6, (1, 0, [0])), (7, (1, 0, [0])), (8, (0, 1, [0])),
            (10, (0, 1, [0])), (11, (0, 0, [3])), (14, (0, 0, [3])), (15, (0, 1, [0])), (19, (0, 1, [0])),
            (20, (1, 0, [0])), (25, (1, 0, [0])), (26, (0, 0, [0])),
        ))

    def test_an_oven_is_held_only_while_it_is_wanted(self):
        self.check(bakery(rooms=(10, 10)), [Order("twice", 4, 90)], [Run(0, [10, 10, 10], 2)], (
            (9, (0, 0, [0, 4])), (10, (0, 0, [0, 0])), (19, (0, 0, [0, 0])), (20, (0, 0, [0, 4])), (30, (0, 0, [0, 0])),
        ))

    def test_several_at_once(self):
        # Twelve loaves make batches of ten and of two; more is held than the bakery has.
        orders = [Order("rye", 12, 90), Order("bake", 5, 90), Order("knead", 1, 90), Order("shape", 9, 90)]
        plan = [Run(0, [10, 10, 10], 2), Run(5, [10, 10, 10], 2), Run(20, [10], 1), Run(0, [20]), Run(12, [10])]
        self.check(bakery(rooms=(10, 8, 9)), orders, plan, (
            (0, (2, 0, [0, 0, 0])), (4, (2, 0, [0, 0, 0])), (5, (3, 0, [0, 0, 0])), (9, (3, 0, [0, 0, 0])),
            (10, (2, 1, [0, 0, 0])), (12, (2, 2, [0, 0, 0])), (14, (2, 2, [0, 0, 0])), (15, (1, 3, [0, 0, 0])),
            (19, (1, 3, [0, 0, 0])), (20, (0, 2, [5, 10, 0])), (21, (0, 2, [5, 10, 0])), (22, (0, 1, [5, 10, 0])),
            (25, (0, 0, [5, 12, 0])), (29, (0, 0, [5, 12, 0])), (30, (0, 0, [0, 2, 0])), (34, (0, 0, [0, 2, 0])),
            (35, (0, 0, [0, 0, 0])),
        ))

    def test_several_batches_in_one_oven(self):
        orders = [Order("bake", 25, 90), Order("hot", 3, 90)]
        plan = [Run(0, [10], 3), Run(5, [10], 3), Run(5, [10], 1), Run(9, [10], 3)]
        self.check(bakery(rooms=(10, 10, 10)), orders, plan, (
            (0, (0, 0, [0, 0, 10])), (5, (0, 0, [5, 0, 20])), (9, (0, 0, [5, 0, 23])), (10, (0, 0, [5, 0, 13])),
            (15, (0, 0, [0, 0, 3])), (19, (0, 0, [0, 0, 0])),
        ))

    def test_minutes_far_away(self):
        orders, plan = [Order("rye", 3, 90)], [Run(0, [720, 720, 720], 1)]
        self.check(bakery(), orders, plan, [(minute, (0, 0, [0])) for minute in (-1, -2, -720, 2160) + FAR])
        self.check(bakery(), orders, plan, ((0, (1, 0, [0])), (720, (0, 1, [0])), (2159, (0, 0, [3]))))

    def test_the_told_list_belongs_to_the_caller(self):
        asked, orders, plan = bakery(rooms=(10, 10)), [Order("bake", 7, 60)], [Run(0, [10], 2)]
        for minute, loaves in ((0, [0, 7]), (10, [0, 0])):
            told = held(asked, orders, plan, minute)[2]
            told[0] = 99
            told.append(5)
            self.assertEqual(held(asked, orders, plan, minute), (0, 0, loaves))


class TestStand(Minutes):
    def check(self, asked, orders, plan, cases):
        self.compare(stand, asked, orders, plan, cases)

    def test_without_orders(self):
        self.check(bakery(), [], [], [(minute, []) for minute in (0, -1, 5) + FAR])

    def test_one_run_at_its_end(self):
        self.check(bakery(), [Order("rye", 7, 60)], [Run(5, [10, 10, 10], 1)], (
            (-1, [0]), (0, [0]), (5, [0]), (34, [0]), (35, [7]), (36, [7]), (60, [7]), (720, [7]), (721, [7]),
            (10 ** 40, [7]), (-(10 ** 40), [0]),
        ))

    def test_a_run_that_ends_behind_the_time_and_the_night(self):
        self.check(bakery(100), [Order("rest", 7, 60)], [Run(1440, [720])], (
            (60, [0]), (100, [0]), (2159, [0]), (2160, [7]), (10 ** 40, [7]),
        ))

    def test_a_run_of_length_0(self):
        self.check(bakery(), [Order("rest", 7, 60)], [Run(0, [0])], ((-1, [0]), (0, [7])))
        self.check(bakery(), [Order("rest", 7, 60)], [Run(9, [0])], ((8, [0]), (9, [7])))

    def test_batches_that_end_apart(self):
        orders = [Order("rest", 25, 90), Order("knead", 4, 90), Order("shape", 11, 90)]
        plan = [Run(20, [10]), Run(0, [10]), Run(10, [15]), Run(12, [10]), Run(0, [25]), Run(30, [10])]
        self.check(bakery(), orders, plan, (
            (9, [0, 0, 0]), (10, [10, 0, 0]), (21, [10, 0, 0]), (22, [10, 4, 0]), (24, [10, 4, 0]),
            (25, [15, 4, 10]), (29, [15, 4, 10]), (30, [25, 4, 10]), (39, [25, 4, 10]), (40, [25, 4, 11]),
        ))

    def test_two_orders_of_one_bread(self):
        orders = [Order("rest", 3, 90), Order("rest", 5, 90)]
        self.check(bakery(), orders, [Run(10, [10]), Run(0, [10])], ((10, [0, 5]), (20, [3, 5])))

    def test_the_told_list_belongs_to_the_caller(self):
        asked, orders, plan = bakery(), [Order("rest", 7, 60)], [Run(0, [10])]
        for minute, answer in ((9, [0]), (10, [7])):
            told = stand(asked, orders, plan, minute)
            told[0] = 99
            told.append(5)
            self.assertEqual(stand(asked, orders, plan, minute), answer)


if __name__ == "__main__":
    unittest.main()
