import itertools
import unittest

from doughhours.errors import BadCount, BeyondNight, NoBatch, NoBread, NoPlan, TooMany, TooWide
from doughhours.orders import Order
from doughhours.planner import few, last_begin, latest, slack, ways
from doughhours.plans import Run
from models import as_tuples, batches_of, plain_ways
from planned import Planned
from samples import FAR, bakery, placed, seen, shop

# Each asks for all that goes into the planner, with a number of a batch that may be wrong.
WAYS = {"ways": ways}
PLANS = {
    "latest": lambda asked, orders, batch: latest(asked, orders),
    "last_begin": last_begin,
    "slack": lambda asked, orders, batch: slack(asked, orders),
    "few": lambda asked, orders, batch: few(asked, orders),
}
ASKERS = {**WAYS, **PLANS}

REST = [(5, 5, "nothing", 0)]
REST_OR_MORE = [(5, 10, "nothing", 0)]
KNEAD = [(10, 10, "hands", 0)]
SHAPE = [(10, 10, "bench", 0)]
BAKE = [(10, 10, "oven", 200)]
HOT = [(10, 10, "oven", 230)]


class TestWays(Planned):
    def tells(self, asked, orders, *answers):
        """answers: for each batch its ways as tuples; each is compared with the plain search too."""
        before = seen((asked, orders))
        rows = plain_ways(asked, orders)
        self.assertEqual([sorted(row) for row in rows], [sorted(answer) for answer in answers])
        self.same_ways(asked, orders, rows)
        self.assertEqual(seen((asked, orders)), before)

    def test_one_stage(self):
        asked = shop({"rest": [(5, 10, "nothing", 0)]})
        self.tells(asked, placed(("rest", 15)),
                   [(0, (5,), 0), (5, (5,), 0), (10, (5,), 0), (0, (10,), 0), (5, (10,), 0)])
        self.tells(asked, placed(("rest", 10)), [(0, (5,), 0), (5, (5,), 0), (0, (10,), 0)])
        self.tells(asked, placed(("rest", 5)), [(0, (5,), 0)])
        self.tells(asked, placed(("rest", 4)), [])
        self.tells(asked, placed(("rest", 0)), [])

    def test_two_stages(self):
        asked = shop({"rest": [(5, 10, "nothing", 0), (15, 15, "hands", 0)]})
        self.tells(asked, placed(("rest", 25)), [(0, (5, 15), 0), (5, (5, 15), 0), (0, (10, 15), 0)])

    def test_the_lengths_that_a_stage_can_have(self):
        for least, most, lengths in (
            (1, 4, ()), (6, 9, ()), (11, 14, ()), (1, 1, ()), (719, 719, ()),
            (1, 5, (5,)), (5, 5, (5,)), (4, 6, (5,)), (5, 9, (5,)), (1, 9, (5,)),
            (6, 10, (10,)), (10, 10, (10,)), (9, 11, (10,)), (6, 14, (10,)), (10, 14, (10,)),
            (1, 10, (5, 10)), (5, 10, (5, 10)), (4, 11, (5, 10)), (9, 16, (10, 15)),
            (1, 720, tuple(range(5, 65, 5))), (720, 720, ()), (60, 720, (60,)), (61, 720, ()),
        ):
            asked = shop({"rest": [(least, most, "nothing", 0)]})
            answer = [(begin, (length,), 0) for length in lengths for begin in range(0, 61 - length, 5)]
            self.tells(asked, placed(("rest", 60)), answer)

    def test_stages_without_a_multiple_of_five(self):
        good, bad = (5, 10, "nothing", 0), (6, 9, "hands", 0)
        for count in (1, 2, 3, 4):
            for which in itertools.product((good, bad), repeat=count):
                rows = plain_ways(shop({"rest": which}), placed(("rest", 60)))
                self.assertEqual(rows[0] == [], bad in which)
                self.same_ways(shop({"rest": which}), placed(("rest", 60)), rows)

    def test_such_a_stage_beside_another_order(self):
        asked = shop({"odd": [(6, 9, "nothing", 0)], "rest": REST})
        self.tells(asked, placed(("odd", 60), ("rest", 5), ("odd", 5)), [], [(0, (5,), 0)], [])

    def test_up_to_the_orders_time(self):
        asked = shop({"rest": [(10, 10, "nothing", 0), (10, 10, "nothing", 0)]}, night=120)
        for due in range(0, 121):
            last = due - 20
            answer = [(begin, (10, 10), 0) for begin in range(0, 101, 5) if begin <= last]
            self.tells(asked, placed(("rest", due)), answer)

    def test_each_batch_by_its_own_orders_time(self):
        asked = shop({"rest": REST, "long": [(10, 10, "hands", 0)]})
        self.tells(asked, placed(("rest", 5), ("long", 15), ("rest", 10)),
                   [(0, (5,), 0)], [(0, (10,), 0), (5, (10,), 0)], [(0, (5,), 0), (5, (5,), 0)])

    def test_the_nights_end_alone_is_no_bound(self):
        # The order's time is at most the night's length, so a way that keeps to it keeps to the night.
        for night in (1, 4, 5, 6, 9, 10):
            asked = shop({"rest": REST}, night=night)
            answer = [(begin, (5,), 0) for begin in (0, 5) if begin + 5 <= night]
            self.tells(asked, placed(("rest", night)), answer)

    def test_ovens_by_their_room(self):
        ovens = [(4, 10, 200), (6, 10, 200), (5, 10, 200)]
        asked = shop({"bake": BAKE, "rest": REST}, ovens=ovens)
        for loaves, fits in ((1, (1, 2, 3)), (3, (1, 2, 3)), (4, (1, 2, 3)), (5, (2, 3)), (6, (2,))):
            self.tells(asked, placed(("bake", 10, loaves)), [(0, (10,), oven) for oven in fits])
            self.tells(asked, placed(("rest", 5, loaves)), [(0, (5,), 0)])
        self.tells(asked, placed(("bake", 10, 11)), [(0, (10,), 2)], [(0, (10,), 2), (0, (10,), 3)])
        self.tells(asked, placed(("bake", 10, 16)), *[[(0, (10,), 2)]] * 2, [(0, (10,), oven) for oven in (1, 2, 3)])

    def test_one_to_three_ovens(self):
        for count in (1, 2, 3):
            asked = shop({"bake": BAKE}, ovens=[(6, 10, 200)] * count)
            for loaves in (1, 5, 6):
                answer = [(0, (10,), oven) for oven in range(1, count + 1)]
                self.tells(asked, placed(("bake", 10, loaves)), answer)

    def test_a_bread_that_bakes_at_any_stage(self):
        rest, oven = (5, 5, "nothing", 0), (5, 5, "oven", 200)
        for count in (1, 2, 3, 4):
            for stages in itertools.product((rest, oven), repeat=count):
                asked = shop({"bread": list(stages)}, ovens=[(9, 1, 0), (10, 1, 0)])
                ovens = (1, 2) if oven in stages else (0,)
                self.tells(asked, placed(("bread", 5 * count)), [(0, (5,) * count, number) for number in ovens])

    def test_a_way_may_have_a_fault_by_itself(self):
        # The oven is cold and slow: no plan can bake there, yet the ways are ways.
        asked = shop({"bake": BAKE}, ovens=[(10, 1, 0)])
        self.tells(asked, placed(("bake", 15)), [(0, (10,), 1), (5, (10,), 1)])

    def test_many_lengths(self):
        wants = ("hands", "bench", "oven", "nothing")
        asked = shop({"bread": [(1, 20, want, 200) for want in wants]}, ovens=[(10, 10, 200), (9, 10, 200)])
        for due in (19, 20, 24, 25, 30, 60):
            self.same_ways(asked, placed(("bread", due, 9)), plain_ways(asked, placed(("bread", due, 9))))

    def test_as_many_as_there_can_be(self):
        asked = shop({"bread": [(1, 720, "oven", 200)] * 4}, night=120, ovens=[(10, 10, 200)] * 3)
        told = as_tuples(ways(asked, placed(("bread", 120)), 1))
        self.assertEqual((len(told), len(set(told))), (159390, 159390))
        for begin, lengths, oven in told:
            self.assertTrue(begin >= 0 and begin + sum(lengths) <= 120 and min(lengths) >= 5)
            self.assertEqual([number % 5 for number in (begin,) + lengths], [0] * 5)

    def test_the_told_list_belongs_to_the_caller(self):
        asked, orders = shop({"rest": REST}), placed(("rest", 15))
        told = ways(asked, orders, 1)
        told.clear()
        told = ways(asked, orders, 1)
        told.append(Run(50, [50]))
        told[0] = Run(1, [1])
        self.assertEqual(sorted(as_tuples(ways(asked, orders, 1))), [(0, (5,), 0), (5, (5,), 0), (10, (5,), 0)])
        self.assertEqual([run.begin for run in latest(asked, orders)], [10])

    def test_other_batches(self):
        asked = shop({"rest": REST, "odd": [(6, 9, "nothing", 0)]}, ovens=[(6, 10, 200)])
        for orders in ([], placed(("rest", 60)), placed(("odd", 60, 7)), placed(("rest", 60, 7), ("rest", 0))):
            count = len(batches_of(asked, orders))
            for batch in (0, -1, -count, count + 1, count + 2) + FAR:
                before = seen((asked, orders))
                with self.assertRaises(NoBatch, msg=batch):
                    ways(asked, orders, batch)
                self.assertEqual(seen((asked, orders)), before)

    def test_by_their_names(self):
        asked, orders = shop({"rest": REST}), placed(("rest", 5))
        self.assertEqual(as_tuples(ways(bakery=asked, orders=orders, batch=1)), [(0, (5,), 0)])


class TestTooWide(unittest.TestCase):
    def refuses(self, refusal, asked, orders, askers=None, batches=(1,)):
        before = seen((asked, orders))
        for name, ask in (askers or ASKERS).items():
            for batch in batches:
                with self.subTest(name=name, batch=batch):
                    with self.assertRaises(refusal):
                        ask(asked, orders, batch)
        self.assertEqual(seen((asked, orders)), before)

    def answers(self, asked, orders, askers=None):
        for ask in (askers or ASKERS).values():
            self.assertIsNotNone(ask(asked, orders, 1))

    def counts(self, asked, orders):
        return [len(row) for row in plain_ways(asked, orders)]

    def test_nights(self):
        for night in (1, 60, 119, 120):
            asked = shop({"rest": REST}, night=night)
            self.assertEqual((latest(asked, []), slack(asked, []), few(asked, [])), ([], [], []))
        for night in (5, 119, 120):
            self.answers(shop({"rest": REST}, night=night), placed(("rest", 5)))
        for night in (121, 122, 125, 240, 719, 720):
            for orders in ([], placed(("rest", 5)), placed(("rest", 0)), placed(("rest", night))):
                self.refuses(TooWide, shop({"rest": REST}, night=night), orders)

    def test_batches(self):
        asked = shop({"rest": REST}, night=10, ovens=[(3, 10, 200), (2, 1, 0)])
        for loaves in ((3, 3, 3), (1, 1, 1), (9,), (7,), (6, 3), (1, 4), (1, 1), (1,)):
            self.answers(asked, placed(*[("rest", 10, count) for count in loaves]))
        for loaves in ((1, 1, 1, 1), (10,), (9, 1), (4, 4), (1, 7), (1, 1, 4), (12,), (13,), (60,), (1,) * 12):
            for due in (0, 5, 10):
                self.refuses(TooWide, asked, placed(*[("rest", due, count) for count in loaves]))

    def test_stages(self):
        breads = {"four": REST * 4, "five": REST * 5, "six": REST * 6, "one": REST}
        asked = shop(breads, night=35)
        for orders in (placed(("four", 35)), placed(("one", 5), ("four", 30)), placed(*[("four", 20)] * 3)):
            self.answers(asked, orders)
        for name, due in itertools.product(("five", "six"), (0, 35)):
            self.refuses(TooWide, asked, placed((name, due)))
            self.refuses(TooWide, asked, placed(("one", 5), (name, due)))
            self.refuses(TooWide, asked, placed((name, due), ("one", 0), ("four", 30)))
        # Batches of other orders are refused too.
        self.refuses(TooWide, asked, placed(("one", 5), ("five", 35)), WAYS, (1, 2))

    def test_a_long_bread_that_is_not_ordered(self):
        asked = shop({"six": REST * 6, "rest": REST, "five": REST * 5})
        self.assertEqual([run.begin for run in latest(asked, placed(("rest", 60)))], [55])
        self.answers(asked, placed(("rest", 60)))
        self.assertEqual(latest(asked, []), [])

    def test_ways_that_multiply_to_2000(self):
        asked = shop({"rest": REST, "more": REST_OR_MORE}, night=120)
        cases = (
            ([20, 10, 10], placed(("rest", 100), ("rest", 50), ("rest", 50))),
            ([10, 20, 10], placed(("rest", 50), ("rest", 100), ("rest", 50))),
            ([4, 20, 25], placed(("rest", 20), ("rest", 100), ("more", 65))),
            ([18, 37, 3], placed(("rest", 90), ("more", 95), ("more", 10))),
        )
        for counts, orders in cases:
            self.assertEqual(self.counts(asked, orders), counts)
            self.answers(asked, orders)
            last = [order.due - 5 for order in orders]
            self.assertEqual([run.begin for run in latest(asked, orders)], last)
            self.assertEqual((slack(asked, orders), few(asked, orders)), ([0, 0, 0], []))
            self.assertEqual([last_begin(asked, orders, batch)[0] for batch in (1, 2, 3)], last)

    def test_ways_that_multiply_to_just_above(self):
        asked = shop({"rest": REST, "more": REST_OR_MORE}, night=120)
        cases = (
            ([23, 29, 3], placed(("rest", 115), ("more", 75), ("rest", 15))),
            ([3, 23, 29], placed(("more", 10), ("rest", 119), ("more", 79))),
            ([14, 11, 13], placed(("rest", 70), ("rest", 55), ("rest", 65))),
            ([13, 14, 11], placed(("rest", 65), ("rest", 70), ("rest", 55))),
            ([24, 24, 24], placed(("rest", 120), ("rest", 120), ("rest", 120))),
        )
        for counts, orders in cases:
            self.assertEqual(self.counts(asked, orders), counts)
            self.refuses(TooWide, asked, orders, PLANS, (1, 2, 3))
            self.assertEqual([len(ways(asked, orders, batch)) for batch in (1, 2, 3)], counts)

    def test_the_ways_of_one_and_of_two_batches(self):
        asked = shop({"bread": [(1, 120, "nothing", 0)] * 3}, night=120)
        for due, count in ((70, 1365), (75, 1820)):
            self.assertEqual(self.counts(asked, placed(("bread", due))), [count])
            self.answers(asked, placed(("bread", due)))
        for due, count in ((80, 2380), (120, 12650)):
            self.assertEqual(self.counts(asked, placed(("bread", due))), [count])
            self.answers(asked, placed(("bread", due)), WAYS)
            self.refuses(TooWide, asked, placed(("bread", due)), PLANS)
        # Two batches of one order count by themselves.
        asked = shop({"rest": [(5, 10, "nothing", 0), (5, 5, "nothing", 0)]}, night=120)
        self.assertEqual(self.counts(asked, placed(("rest", 115, 11))), [43, 43])
        self.answers(asked, placed(("rest", 115, 11)))
        self.assertEqual(self.counts(asked, placed(("rest", 120, 11))), [45, 45])
        self.refuses(TooWide, asked, placed(("rest", 120, 11)), PLANS)

    def test_a_batch_without_a_way_counts_as_1(self):
        breads = {"bake": [(5, 5, "oven", 200)], "more": [(5, 10, "oven", 200)], "odd": [(6, 9, "nothing", 0)]}
        asked = shop(breads, night=120, ovens=[(10, 10, 200)] * 2)
        for counts, rows in (([40, 50], (("bake", 100), ("more", 65))), ([48, 42], (("bake", 120), ("more", 55)))):
            for place, none in itertools.product((0, 1, 2), (("odd", 120), ("bake", 4))):
                orders = placed(*rows[:place], none, *rows[place:])
                told = self.counts(asked, orders)
                self.assertEqual(told, counts[:place] + [0] + counts[place:])
                if counts == [40, 50]:
                    self.refuses(NoPlan, asked, orders, {"latest": PLANS["latest"], "slack": PLANS["slack"]})
                    self.assertEqual(few(asked, orders), [place + 1])
                else:
                    self.refuses(TooWide, asked, orders, PLANS, (1, 2, 3))
                self.assertEqual([len(ways(asked, orders, batch)) for batch in (1, 2, 3)], told)

    def test_point_10_goes_ahead(self):
        breads = {"rest": REST, "five": REST * 5}
        for night in (120, 121, 720):
            asked = shop(breads, night=night, ovens=[(2, 10, 200)])
            wide = [("five", 5, 60)]
            for refusal, rows in (
                (BadCount, wide + [("rest", 5)] * 12),
                (NoBread, wide + [("oat", 5)]), (NoBread, [("oat", 5)] + wide),
                (BeyondNight, wide + [("rest", night + 1)]), (BeyondNight, [("rest", -1)] + wide),
                (TooMany, wide), (TooMany, wide + [("rest", 0)]),
            ):
                self.refuses(refusal, asked, placed(*rows), batches=(1, 0, 10 ** 40))

    def test_ahead_of_no_batch(self):
        wrong = (0, -1, 5, 10 ** 40, -(10 ** 40))
        asked = shop({"rest": REST, "five": REST * 5}, night=121)
        self.refuses(TooWide, asked, [], batches=(1,) + wrong)
        self.refuses(TooWide, asked, placed(("rest", 60)), batches=wrong)
        asked = shop({"rest": REST, "five": REST * 5}, night=120)
        self.refuses(TooWide, asked, placed(*[("rest", 5)] * 4), batches=wrong)
        self.refuses(TooWide, asked, placed(("five", 60)), batches=wrong)
        many = placed(*[("rest", 120)] * 3)
        self.refuses(TooWide, asked, many, PLANS, wrong)
        self.refuses(NoBatch, asked, many, WAYS, wrong)

    def test_ahead_of_no_plan(self):
        asked = shop({"rest": REST, "five": REST * 5, "knead": KNEAD}, night=121)
        self.refuses(TooWide, asked, placed(("rest", 0)))
        asked = shop({"rest": REST, "five": REST * 5, "knead": KNEAD}, night=120)
        self.refuses(TooWide, asked, placed(*[("rest", 0)] * 4))
        self.refuses(TooWide, asked, placed(("five", 24)))
        # Neither of the ways of these goes beside the others, and they are too many.
        bread = [(5, 15, "hands", 0), (5, 15, "hands", 0)]
        asked = shop({"bread": bread}, night=30)
        orders = placed(*[("bread", 25)] * 3)
        self.assertEqual(self.counts(asked, orders), [18] * 3)
        self.refuses(TooWide, asked, orders, PLANS)
        orders = placed(*[("bread", 20)] * 3)
        self.assertEqual(self.counts(asked, orders), [10] * 3)
        self.refuses(NoPlan, asked, orders, {"latest": PLANS["latest"], "last_begin": last_begin})


class TestLatest(Planned):
    def tells(self, asked, orders, begins):
        self.assertEqual(self.agrees(asked, orders).begins(), begins)
        self.assertEqual([run.begin for run in latest(asked, orders)], begins)

    def refuses(self, asked, orders):
        self.assertEqual(self.agrees(asked, orders).good, [])

    def test_without_orders(self):
        self.tells(shop({"rest": REST}), [], [])
        told = latest(shop({"rest": REST}), [])
        told.append(Run(0, [5]))
        self.assertEqual(latest(shop({"rest": REST}), []), [])

    def test_one_order(self):
        asked = shop({"rest": [(4, 12, "nothing", 0), (7, 20, "nothing", 0)]})
        for due, begin in ((60, 45), (59, 40), (55, 40), (19, 0), (15, 0)):
            self.tells(asked, placed(("rest", due)), [begin])
        for due in (14, 5, 0):
            self.refuses(asked, placed(("rest", due)))

    def test_orders_that_do_not_hinder_one_another(self):
        asked = shop({"rest": REST})
        self.tells(asked, placed(("rest", 60), ("rest", 7), ("rest", 33)), [55, 0, 25])

    def test_the_first_batch_goes_last_where_either_may(self):
        asked = shop({"knead": KNEAD})
        self.tells(asked, placed(("knead", 60), ("knead", 60)), [50, 40])
        self.tells(asked, placed(("knead", 60), ("knead", 60), ("knead", 60)), [50, 40, 30])
        self.tells(asked, placed(("knead", 60, 21)), [50, 40, 30])
        self.tells(asked, placed(("knead", 55), ("knead", 60)), [40, 50])
        self.tells(asked, placed(("knead", 40), ("knead", 60), ("knead", 60)), [30, 50, 40])

    def test_the_beginning_goes_ahead_of_the_first_batch(self):
        # The first could begin at 25, but then the second would have to begin at 5.
        asked = shop({"short": [(10, 10, "hands", 0), (5, 5, "nothing", 0)], "long": [(20, 20, "hands", 0)]})
        self.tells(asked, placed(("short", 40), ("long", 40)), [10, 20])
        self.tells(asked, placed(("long", 40), ("short", 40)), [20, 10])

    def test_the_first_batch_goes_ahead_of_the_second_and_that_of_the_third(self):
        # The long one holds the beginning at 0, whichever of the others is last.
        asked = shop({"long": [(60, 60, "nothing", 0)], "knead": KNEAD})
        for rows, begins in (
            ((("long", 60), ("knead", 60), ("knead", 60)), [0, 50, 40]),
            ((("knead", 60), ("long", 60), ("knead", 60)), [50, 0, 40]),
            ((("knead", 60), ("knead", 60), ("long", 60)), [50, 40, 0]),
        ):
            self.tells(asked, placed(*rows), begins)

    def test_the_first_batch_goes_ahead_of_the_others_together(self):
        # With the first at 50 the two others lie far apart from it; together they would be later.
        asked = shop({"long": [(60, 60, "nothing", 0)], "short": [(5, 5, "hands", 0), (5, 5, "nothing", 0)],
                      "knead": [(20, 20, "hands", 0)]})
        self.tells(asked, placed(("long", 60), ("short", 60), ("knead", 60)), [0, 50, 30])
        self.tells(asked, placed(("long", 60), ("knead", 60), ("short", 60)), [0, 40, 35])

    def test_a_longer_way_where_the_shortest_does_not_go(self):
        # The second must wait with its hands until those of the first are free.
        asked = shop({"knead": [(10, 10, "nothing", 0), (10, 10, "hands", 0)],
                      "rest": [(10, 30, "nothing", 0), (10, 10, "hands", 0)]}, night=40)
        self.tells(asked, placed(("knead", 20), ("rest", 40)), [0, 20])
        self.refuses(asked, placed(("knead", 20), ("rest", 25)))
        self.tells(asked, placed(("knead", 20), ("rest", 30)), [0, 10])

    def test_hands(self):
        for hands in (1, 2):
            asked = shop({"knead": KNEAD}, hands=hands)
            self.tells(asked, placed(*[("knead", 10)] * hands), [0] * hands)
            self.refuses(asked, placed(*[("knead", 10)] * (hands + 1)))
            self.refuses(asked, placed(*[("knead", 19)] * (hands + 1)))
            self.tells(asked, placed(*[("knead", 20)] * (hands + 1)), [10] * hands + [0])

    def test_bench_places(self):
        for benches in (1, 2):
            asked = shop({"shape": SHAPE}, benches=benches)
            self.tells(asked, placed(*[("shape", 10)] * benches), [0] * benches)
            self.refuses(asked, placed(*[("shape", 10)] * (benches + 1)))
            self.tells(asked, placed(*[("shape", 20)] * (benches + 1)), [10] * benches + [0])

    def test_room(self):
        asked = shop({"bake": BAKE}, ovens=[(10, 10, 200)])
        self.tells(asked, placed(("bake", 10, 5), ("bake", 10, 5)), [0, 0])
        self.refuses(asked, placed(("bake", 10, 5), ("bake", 10, 6)))
        self.tells(asked, placed(("bake", 20, 5), ("bake", 20, 6)), [10, 0])
        asked = shop({"bake": BAKE}, ovens=[(10, 10, 200), (6, 10, 200)])
        self.tells(asked, placed(("bake", 10, 5), ("bake", 10, 6)), [0, 0])
        self.tells(asked, placed(("bake", 10, 10), ("bake", 10, 6)), [0, 0])
        self.refuses(asked, placed(("bake", 10, 7), ("bake", 10, 7)))
        self.refuses(asked, placed(("bake", 10, 11), ("bake", 10, 6)))

    def test_heat_from_the_ovens_own(self):
        for heat, begin in ((200, 0), (180, 5), (150, 5), (140, 10), (0, 20), (250, 5), (300, 10)):
            asked = shop({"bake": BAKE}, ovens=[(10, 10, heat)])
            self.tells(asked, placed(("bake", begin + 10)), [begin])
            self.tells(asked, placed(("bake", begin + 14)), [begin])
            self.refuses(asked, placed(("bake", begin + 9)))
        self.refuses(shop({"bake": BAKE}, ovens=[(10, 1, 0)]), placed(("bake", 60)))

    def test_unlike_heats(self):
        breads = {"bake": BAKE, "hot": HOT}
        asked = shop(breads, ovens=[(10, 10, 200)])
        self.refuses(asked, placed(("bake", 20), ("hot", 20)))
        self.refuses(asked, placed(("bake", 24), ("hot", 24)))
        # Three minutes lie between the heats, so a step of five.
        self.tells(asked, placed(("bake", 25), ("hot", 25)), [0, 15])
        self.tells(asked, placed(("hot", 60), ("bake", 60)), [50, 35])
        self.tells(asked, placed(("bake", 60), ("hot", 60)), [50, 35])
        asked = shop(breads, ovens=[(10, 300, 215)])
        self.refuses(asked, placed(("bake", 29), ("hot", 29)))
        self.tells(asked, placed(("bake", 30), ("hot", 30)), [20, 5])
        asked = shop(breads, ovens=[(10, 10, 200), (10, 10, 230)])
        self.tells(asked, placed(("bake", 10), ("hot", 10)), [0, 0])

    def test_one_bread_in_two_heats(self):
        twice = {"twice": [(5, 5, "oven", 200), (5, 15, "nothing", 0), (5, 5, "oven", 300)]}
        self.tells(shop(twice), placed(("twice", 20)), [0])
        self.refuses(shop(twice), placed(("twice", 19)))
        self.tells(shop(twice, ovens=[(10, 20, 200)]), placed(("twice", 19)), [0])
        self.refuses(shop(twice, ovens=[(10, 6, 200)]), placed(("twice", 60)))

    def test_one_order_without_a_way(self):
        asked = shop({"rest": REST, "odd": [(6, 9, "nothing", 0)]})
        for bad in (("odd", 60), ("rest", 4), ("rest", 0)):
            for place in range(3):
                rows = [("rest", 60), ("rest", 30)]
                rows.insert(place, bad)
                self.refuses(asked, placed(*rows))
            self.refuses(asked, placed(bad))

    def test_by_their_names(self):
        asked = shop({"rest": REST})
        self.assertEqual(latest(bakery=asked, orders=[]), [])


class TestLastBegin(Planned):
    def setUp(self):
        self.asked = shop({"short": [(10, 10, "hands", 0), (5, 5, "nothing", 0)], "long": [(20, 20, "hands", 0)],
                           "odd": [(6, 9, "nothing", 0)], "rest": REST})

    def tells(self, orders, minutes):
        self.assertEqual(self.agrees(self.asked, orders).last(), minutes)
        told = [last_begin(self.asked, orders, batch)[0] for batch in range(1, len(minutes) + 1)]
        self.assertEqual(told, minutes)

    def test_later_than_in_the_latest_plan(self):
        self.tells(placed(("short", 40), ("long", 40)), [25, 20])
        self.tells(placed(("long", 40), ("short", 40)), [20, 25])
        self.tells(placed(("long", 60), ("short", 60), ("rest", 60)), [40, 45, 55])

    def test_each_of_one_orders_batches(self):
        self.tells(placed(("short", 60, 21)), [45, 45, 45])
        self.tells(placed(("long", 60, 21)), [40, 40, 40])
        self.tells(placed(("long", 40, 11)), [20, 20])

    def test_one_batch(self):
        for due in range(5, 61):
            self.tells(placed(("rest", due)), [(due - 5) // 5 * 5])

    def test_other_batches(self):
        for orders in ([], placed(("rest", 60)), placed(("rest", 60, 21)), placed(("short", 60), ("long", 60)),
                       placed(("odd", 60)), placed(("rest", 0, 11)), placed(("long", 20), ("long", 20))):
            count = len(batches_of(self.asked, orders))
            for batch in (0, -1, -count, count + 1, count + 2) + FAR:
                before = seen((self.asked, orders))
                with self.assertRaises(NoBatch, msg=batch):
                    last_begin(self.asked, orders, batch)
                self.assertEqual(seen((self.asked, orders)), before)

    def test_no_plan(self):
        for orders in (placed(("odd", 60)), placed(("rest", 0, 11)), placed(("long", 20), ("long", 20))):
            self.assertEqual(self.agrees(self.asked, orders).good, [])

    def test_the_told_plan_belongs_to_the_caller(self):
        orders = placed(("short", 40), ("long", 40))
        minute, plan = last_begin(self.asked, orders, 1)
        plan.clear()
        minute, plan = last_begin(self.asked, orders, 1)
        self.assertEqual((minute, len(plan), plan[0].begin), (25, 2, 25))
        plan[0] = Run(0, [5])
        self.tells(orders, [25, 20])

    def test_by_their_names(self):
        self.assertEqual(last_begin(bakery=self.asked, orders=placed(("rest", 60)), batch=1)[0], 55)


class TestSlack(Planned):
    def setUp(self):
        self.asked = shop({"short": [(10, 10, "hands", 0), (5, 5, "nothing", 0)], "long": [(20, 20, "hands", 0)],
                           "knead": KNEAD, "rest": REST})

    def tells(self, orders, answer):
        self.agrees(self.asked, orders)
        self.assertEqual(slack(self.asked, orders), answer)

    def test_hand_made(self):
        self.tells([], [])
        self.tells(placed(("rest", 60)), [0])
        self.tells(placed(("rest", 60, 21)), [0, 0, 0])
        self.tells(placed(("short", 40), ("long", 40)), [15, 0])
        self.tells(placed(("long", 40), ("short", 40)), [0, 15])
        self.tells(placed(("knead", 60), ("knead", 60)), [0, 10])
        self.tells(placed(("knead", 60), ("knead", 60), ("knead", 60)), [0, 10, 20])
        self.tells(placed(("knead", 60, 20), ("knead", 60)), [0, 10, 20])
        self.tells(placed(("rest", 30), ("knead", 60), ("knead", 60)), [0, 0, 10])

    def test_no_plan(self):
        for orders in (placed(("rest", 0)), placed(("knead", 10), ("knead", 10)), placed(("long", 30, 11))):
            with self.assertRaises(NoPlan):
                slack(self.asked, orders)

    def test_the_told_list_belongs_to_the_caller(self):
        orders = placed(("short", 40), ("long", 40))
        told = slack(self.asked, orders)
        told[0] = 99
        told.append(5)
        self.tells(orders, [15, 0])
        slack(self.asked, []).append(1)
        self.tells([], [])

    def test_by_their_names(self):
        self.assertEqual(slack(bakery=self.asked, orders=placed(("rest", 60))), [0])


class TestFew(Planned):
    def setUp(self):
        self.breads = {"knead": KNEAD, "shape": SHAPE, "bake": BAKE, "hot": HOT, "odd": [(6, 9, "nothing", 0)],
                       "rest": REST}

    def tells(self, asked, orders, *answers):
        """answers: each one that the document leaves open."""
        self.agrees(asked, orders)
        self.assertIn(few(asked, orders), answers)

    def test_a_good_plan(self):
        asked = shop(self.breads)
        for orders in ([], placed(("rest", 60)), placed(("knead", 20), ("knead", 20)), placed(("bake", 60, 25))):
            self.tells(asked, orders, [])

    def test_one_alone(self):
        asked = shop(self.breads, ovens=[(10, 1, 199)])
        for bad in (("odd", 60), ("rest", 4), ("knead", 9), ("hot", 20), ("bake", 10)):
            self.tells(asked, placed(bad), [1])
            for place, number in ((0, [1]), (1, [2]), (2, [3])):
                rows = [("rest", 60), ("knead", 60)]
                rows.insert(place, bad)
                self.tells(asked, placed(*rows), number)

    def test_one_whose_own_batches_can_not_go_together(self):
        asked = shop(self.breads)
        self.tells(asked, placed(("knead", 10, 11)), [1])
        self.tells(asked, placed(("rest", 60), ("knead", 10, 11)), [2])
        self.tells(asked, placed(("knead", 29, 21)), [1])

    def test_one_of_several_that_can_not(self):
        asked = shop(self.breads)
        self.tells(asked, placed(("odd", 60), ("rest", 4)), [1], [2])
        self.tells(asked, placed(("odd", 60), ("rest", 60), ("rest", 0)), [1], [3])
        self.tells(asked, placed(("knead", 10), ("knead", 10), ("odd", 60)), [1, 2], [3])

    def test_two(self):
        for word, asked in (("knead", shop(self.breads)), ("shape", shop(self.breads))):
            self.tells(asked, placed((word, 10), (word, 10)), [1, 2])
            self.tells(asked, placed(("rest", 60), (word, 10), (word, 10)), [2, 3])
            self.tells(asked, placed((word, 10), ("rest", 60), (word, 10)), [1, 3])
            self.tells(asked, placed((word, 10), (word, 10), ("rest", 60)), [1, 2])
            self.tells(asked, placed((word, 10), (word, 10), (word, 10)), [1, 2], [1, 3], [2, 3])
            self.tells(asked, placed((word, 20), (word, 10), (word, 10)), [2, 3])
        asked = shop(self.breads)
        self.tells(asked, placed(("bake", 10, 6), ("knead", 60), ("bake", 10, 5)), [1, 3])
        self.tells(asked, placed(("rest", 60), ("bake", 20), ("hot", 20)), [2, 3])

    def test_three(self):
        for name in ("knead", "shape"):
            asked = shop(self.breads, hands=2, benches=2)
            self.tells(asked, placed((name, 10), (name, 10), (name, 10)), [1, 2, 3])
            self.tells(shop(self.breads), placed((name, 20), (name, 20), (name, 20)), [1, 2, 3])
        self.tells(shop(self.breads), placed(("bake", 10, 4), ("bake", 10, 3), ("bake", 10, 4)), [1, 2, 3])
        self.tells(shop(self.breads), placed(("knead", 10), ("knead", 25), ("knead", 25)), [1, 2, 3])

    def test_two_orders_of_three_batches(self):
        asked = shop(self.breads)
        self.tells(asked, placed(("knead", 20, 11), ("knead", 20)), [1, 2])
        self.tells(asked, placed(("knead", 20), ("knead", 20, 20)), [1, 2])

    def test_the_told_list_belongs_to_the_caller(self):
        asked, orders = shop(self.breads), placed(("rest", 60), ("odd", 60))
        told = few(asked, orders)
        told.append(3)
        told[0] = 1
        self.tells(asked, orders, [2])
        few(asked, []).append(1)
        self.tells(asked, [], [])

    def test_by_their_names(self):
        self.assertEqual(few(bakery=shop(self.breads), orders=[Order("odd", 1, 60)]), [1])


class TestSampleBreads(Planned):
    def test_each_bread_alone(self):
        for name in ("rest", "knead", "shape", "bake", "hot"):
            self.agrees(bakery(night=40), placed((name, 40)))
        self.agrees(bakery(night=50), placed(("rye", 50)))
        self.agrees(bakery(night=50), placed(("twice", 50)))
        with self.assertRaises(TooWide):
            latest(bakery(night=120), placed(("whole", 120)))


if __name__ == "__main__":
    unittest.main()
