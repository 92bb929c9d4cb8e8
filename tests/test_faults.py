import itertools
import random
import unittest

from doughhours.bakery import Bakery
from doughhours.errors import BadNumber, Faulty, NoBatch, NoOven
from doughhours.faults import FAULTS, fault, heats, late
from doughhours.orders import Order
from doughhours.ovens import Oven, course
from doughhours.plans import Run
from models import drawn, first_of, walked, wanted_in
from samples import BREADS, FAR, bakery, seen


def asked_for(jobs):
    """Orders and a plan from rows of a bread's name, its loaves, its time and the runs of its batches."""
    orders = [Order(name, loaves, due) for name, loaves, due, runs in jobs]
    return orders, [run for name, loaves, due, runs in jobs for run in runs]


class Faults(unittest.TestCase):
    def tells(self, asked, jobs, answer):
        orders, plan = asked_for(jobs)
        handed = (asked, orders, plan)
        before = seen(handed)
        told = fault(asked, orders, plan)
        rows = [(order.bread, order.loaves, order.due) for order in orders]
        self.assertEqual(told, answer, (rows, [(run.begin, run.lengths, run.oven) for run in plan]))
        if answer is not None:
            self.assertIs(type(told), tuple)
        self.assertEqual(fault(asked, orders, plan), answer)
        self.assertEqual(seen(handed), before)


class TestNoFault(Faults):
    def test_the_words(self):
        self.assertEqual(FAULTS, ("door", "short", "long", "hands", "bench", "room", "heat"))
        self.assertIs(type(FAULTS), tuple)

    def test_without_orders(self):
        self.tells(bakery(), [], None)

    def test_one_batch_of_each_bread(self):
        for bread in BREADS:
            for length in (10, 15, 20):
                run = Run(40, [length] * len(bread.stages), 1 if bread.bakes() else 0)
                self.tells(bakery(), [(bread.name, 10, 720, [run])], None)

    def test_several_batches(self):
        self.tells(bakery(), [
            ("rye", 20, 50, [Run(0, [10, 10, 10], 1), Run(10, [10, 10, 10], 1)]),
            ("rest", 60, 20, [Run(0, [20])] * 6),
        ], None)


class TestDoor(Faults):
    def test_a_minute_behind_the_time(self):
        for due in (10, 30, 719, 720):
            self.tells(bakery(), [("rest", 5, due, [Run(due - 10, [10])])], None)
            self.tells(bakery(), [("rest", 5, due, [Run(due - 9, [10])])], (due, "door", 1))
            self.tells(bakery(), [("rest", 5, due, [Run(due - 10, [11])])], (due, "door", 1))

    def test_far_behind_the_time(self):
        self.tells(bakery(), [("rest", 5, 30, [Run(1440, [10])])], (30, "door", 1))
        self.tells(bakery(100), [("rest", 5, 100, [Run(95, [10])])], (100, "door", 1))

    def test_a_time_of_0(self):
        self.tells(bakery(), [("rest", 5, 0, [Run(0, [10])])], (0, "door", 1))
        # A run that takes no time stands there by then; it is too short instead.
        self.tells(bakery(), [("rest", 5, 0, [Run(0, [0])])], (0, "short", 1))

    def test_the_order_counts_not_the_batch(self):
        early, behind = Run(0, [10]), Run(21, [10])
        for runs in ([early, early, behind], [early, behind, early], [behind, early, early], [behind] * 3):
            self.tells(bakery(), [("rest", 20, 40, [early] * 2), ("rest", 30, 30, runs)], (30, "door", 2))

    def test_the_least_time_then_the_least_number(self):
        behind = [Run(100, [10])]
        self.tells(bakery(), [("rest", 1, 31, behind), ("rest", 1, 30, behind), ("rest", 1, 30, behind)],
                   (30, "door", 2))
        self.tells(bakery(), [("rest", 1, 30, behind)] * 12, (30, "door", 1))
        self.tells(bakery(), [("rest", 1, 110, behind)] * 11 + [("rest", 1, 109, behind)], (109, "door", 12))


class TestShortAndLong(Faults):
    def test_short(self):
        self.tells(bakery(), [("rest", 1, 720, [Run(30, [10])])], None)
        for length in (0, 1, 5, 9):
            self.tells(bakery(), [("rest", 1, 720, [Run(30, [length])])], (30 + length, "short", 1))

    def test_long(self):
        self.tells(bakery(), [("rest", 1, 720, [Run(30, [20])])], None)
        for length in (21, 22, 100, 690):
            self.tells(bakery(), [("rest", 1, 720, [Run(30, [length])])], (50, "long", 1))

    def test_each_stage(self):
        for place in range(6):
            lengths = [10] * 6
            lengths[place] = 9
            jobs = [("whole", 1, 720, [Run(7, lengths, 1)])]
            self.tells(bakery(), jobs, (7 + 10 * place + 9, "short", 1))
            lengths[place] = 21
            jobs = [("whole", 1, 720, [Run(7, lengths, 1)])]
            self.tells(bakery(), jobs, (7 + 10 * place + 20, "long", 1))

    def test_two_stages_of_one_batch(self):
        self.tells(bakery(), [("rye", 1, 720, [Run(0, [9, 8, 7], 1)])], (9, "short", 1))
        self.tells(bakery(), [("rye", 1, 720, [Run(0, [21, 0, 0], 1)])], (20, "long", 1))
        self.tells(bakery(), [("rye", 1, 720, [Run(0, [10, 0, 0], 1)])], (10, "short", 1))

    def test_the_batch_counts_not_the_order(self):
        good, short, long = Run(0, [10]), Run(0, [9]), Run(0, [30])
        for bad, minute, word in ((short, 9, "short"), (long, 20, "long")):
            for place in range(5):
                runs = [good] * 5
                runs[place] = bad
                self.tells(bakery(), [("rest", 20, 40, runs[:2]), ("rest", 30, 40, runs[2:])],
                           (minute, word, place + 1))

    def test_the_least_number(self):
        good, short, long = Run(0, [10]), Run(0, [9]), Run(0, [30])
        self.tells(bakery(), [("rest", 40, 40, [good, short, good, short])], (9, "short", 2))
        self.tells(bakery(), [("rest", 40, 40, [good, good, long, long])], (20, "long", 3))
        self.tells(bakery(), [("rest", 20, 40, [Run(1, [9]), short])], (9, "short", 2))
        self.tells(bakery(), [("rest", 20, 40, [Run(1, [30]), long])], (20, "long", 2))


class TestHandsAndBench(Faults):
    def setUp(self):
        self.words = (("knead", "hands"), ("shape", "bench"))

    def of(self, word, count):
        return bakery(hands=count if word == "hands" else 1, benches=count if word == "bench" else 1)

    def test_just_enough_and_one_too_many(self):
        for name, word in self.words:
            for count in range(1, 7):
                one = (name, 1, 720, [Run(30, [10])])
                self.tells(self.of(word, count), [one] * count, None)
                self.tells(self.of(word, count), [one] * (count + 1), (30, word, 0))
                # The other number is no help.
                other = self.of("bench" if word == "hands" else "hands", 6)
                self.tells(other, [one] * 2, (30, word, 0))

    def test_at_the_first_minute_of_too_many(self):
        for name, word in self.words:
            for begin in (31, 35, 39):
                for runs in ([Run(30, [10]), Run(begin, [10])], [Run(begin, [10]), Run(30, [10])]):
                    self.tells(self.of(word, 1), [(name, 20, 720, runs)], (begin, word, 0))

    def test_one_behind_another(self):
        for name, word in self.words:
            for runs in ([Run(30, [10]), Run(40, [10])], [Run(40, [10]), Run(30, [10])]):
                self.tells(self.of(word, 1), [(name, 20, 720, runs)], None)

    def test_a_batch_holds_one_whatever_its_loaves(self):
        for name, word in self.words:
            self.tells(self.of(word, 1), [(name, 10, 720, [Run(30, [10])])], None)

    def test_stages_in_the_middle_of_runs(self):
        # The first kneads from 40 to 60; the second begins to knead at 59, then at 60.
        def jobs(begin):
            return [("whole", 1, 720, [Run(30, [10, 20, 10, 10, 10, 10], 1)]), ("knead", 1, 720, [Run(begin, [10])])]
        self.tells(bakery(), jobs(59), (59, "hands", 0))
        self.tells(bakery(), jobs(60), None)
        self.tells(bakery(), jobs(31), (40, "hands", 0))
        self.tells(bakery(), jobs(30), None)

    def test_hands_and_bench_are_counted_apart(self):
        self.tells(bakery(), [("knead", 1, 720, [Run(0, [10])]), ("shape", 1, 720, [Run(0, [10])])], None)


class TestRoom(Faults):
    def test_a_batch_of_more_loaves_than_its_oven_holds(self):
        for loaves in (1, 4, 5):
            self.tells(bakery(rooms=(10, 5)), [("bake", loaves, 720, [Run(30, [10], 2)])], None)
        for loaves in (6, 10):
            self.tells(bakery(rooms=(10, 5)), [("bake", loaves, 720, [Run(30, [10], 2)])], (30, "room", 2))
            self.tells(bakery(rooms=(5, 10)), [("bake", loaves, 720, [Run(30, [10], 1)])], (30, "room", 1))
            self.tells(bakery(rooms=(10, 5)), [("bake", loaves, 720, [Run(30, [10], 1)])], None)

    def test_several_batches_in_one_oven(self):
        def jobs(one, other, begin, oven):
            return [("bake", one, 720, [Run(30, [10], 1)]), ("bake", other, 720, [Run(begin, [10], oven)])]
        for begin in (30, 31, 39):
            self.tells(bakery(rooms=(10, 10)), jobs(6, 4, begin, 1), None)
            self.tells(bakery(rooms=(10, 10)), jobs(6, 5, begin, 1), (begin, "room", 1))
            self.tells(bakery(rooms=(10, 10)), jobs(6, 5, begin, 2), None)
        self.tells(bakery(rooms=(10, 10)), jobs(10, 10, 40, 1), None)
        self.tells(bakery(rooms=(10, 10)), jobs(10, 10, 20, 1), None)
        self.tells(bakery(rooms=(10, 10)), jobs(10, 10, 21, 1), (30, "room", 1))

    def test_the_least_number(self):
        def jobs(*ovens):
            return [("bake", 6, 720, [Run(30 + later, [10], oven)]) for oven, later in ovens]
        asked = bakery(rooms=(10, 5, 5))
        self.tells(asked, jobs((3, 0), (2, 0)), (30, "room", 2))
        self.tells(asked, jobs((2, 0), (3, 0)), (30, "room", 2))
        self.tells(asked, jobs((2, 1), (3, 0)), (30, "room", 3))
        self.tells(asked, jobs((1, 0), (3, 0)), (30, "room", 3))


class TestHeat(Faults):
    """`bake` wants 200 degrees, `hot` wants 230; the ovens change by ten a minute where nothing else is said."""

    def pair(self, one, other, first=("bake", 1), second=("hot", 1), rooms=(10, 10), **others):
        jobs = [(first[0], 1, 720, [Run(one, [10], first[1])]), (second[0], 1, 720, [Run(other, [10], second[1])])]
        return bakery(rooms=rooms, **others), jobs

    def test_from_the_nights_beginning(self):
        # The oven's own heat and rate, and the minutes that 200 degrees ask for.
        for heat, rate, minutes in ((200, 1, 0), (199, 10, 1), (190, 10, 1), (189, 10, 2), (0, 10, 20), (0, 300, 1),
                                    (0, 199, 2), (0, 1, 200), (300, 10, 10), (201, 1, 1), (300, 99, 2), (300, 100, 1)):
            asked = bakery(heat=heat, rate=rate)
            for begin in {minutes, minutes + 1, minutes + 50}:
                self.tells(asked, [("bake", 1, 720, [Run(begin, [10], 1)])], None)
            for begin in {0, minutes // 2, minutes - 1} - {-1, minutes}:
                self.tells(asked, [("bake", 1, 720, [Run(begin, [10], 1)])], (begin, "heat", 1))

    def test_a_stage_that_bakes_behind_others(self):
        jobs = [("rye", 1, 720, [Run(0, [10, 10, 10], 1)])]
        self.tells(bakery(heat=0, rate=10), jobs, None)
        self.tells(bakery(heat=0, rate=9), jobs, (20, "heat", 1))

    def test_unlike_heats_at_once(self):
        for begin in (30, 31, 39):
            self.tells(*self.pair(30, begin), (begin, "heat", 1))
            self.tells(*self.pair(30, begin, second=("hot", 2), heat=230, rate=300), None)
            self.tells(*self.pair(30, begin, second=("bake", 1)), None)
        self.tells(*self.pair(30, 21, heat=230), (30, "heat", 1))
        self.tells(*self.pair(30, 30, heat=230), (30, "heat", 1))
        self.tells(*self.pair(30, 30, ("bake", 2), ("hot", 2)), (30, "heat", 2))

    def test_unlike_heats_of_three(self):
        jobs = [(name, 1, 720, [Run(30, [10], 1)]) for name in ("bake", "hot", "bake")]
        for turned in itertools.permutations(jobs):
            self.tells(bakery(), list(turned), (30, "heat", 1))

    def test_from_the_last_baking(self):
        # From 200 to 230 it takes three minutes, up and down.
        for begin in (40, 41, 42):
            self.tells(*self.pair(30, begin), (begin, "heat", 1))
            self.tells(*self.pair(begin, 30, heat=230), (begin, "heat", 1))
        for begin in (43, 44, 90):
            self.tells(*self.pair(30, begin), None)
            self.tells(*self.pair(begin, 30, heat=230), None)
        for rate, minutes in ((1, 30), (7, 5), (29, 2), (30, 1), (300, 1)):
            self.tells(*self.pair(30, 40 + minutes, rate=rate), None)
            self.tells(*self.pair(30, 39 + minutes, rate=rate), (39 + minutes, "heat", 1))

    def test_an_equal_heat_needs_no_minute(self):
        for begin in (40, 41, 90):
            self.tells(*self.pair(30, begin, second=("bake", 1), rate=1), None)

    def test_the_ovens_own_heat_is_forgotten_once_it_has_baked(self):
        # It has 230 at the beginning, but bakes at 200 in between.
        asked, jobs = self.pair(30, 42, heat=230)
        self.tells(asked, jobs, (42, "heat", 1))

    def test_each_oven_by_itself(self):
        self.tells(*self.pair(30, 41, second=("hot", 2), rate=1), None)
        self.tells(*self.pair(30, 29, second=("hot", 2), rate=1), (29, "heat", 2))
        own = Bakery(720, 1, 1, [Oven(10, 1, 200), Oven(10, 30, 230), Oven(10, 30, 0)], list(BREADS))
        self.tells(own, [("bake", 1, 720, [Run(0, [10], 1)]), ("hot", 1, 720, [Run(0, [10], 2)])], None)
        self.tells(own, [("hot", 1, 720, [Run(29, [10], 1)])], (29, "heat", 1))
        self.tells(own, [("bake", 1, 720, [Run(1, [10], 2)])], None)
        self.tells(own, [("hot", 1, 720, [Run(7, [10], 3)])], (7, "heat", 3))
        self.tells(own, [("hot", 1, 720, [Run(8, [10], 3)])], None)

    def test_the_oven_rests_from_the_last_that_left_it(self):
        def jobs(begin):
            baking = [Run(30, [20], 1), Run(31, [10], 1), Run(35, [10], 1)]
            return [("bake", 1, 720, [run]) for run in baking] + [("hot", 1, 720, [Run(begin, [10], 1)])]
        self.tells(bakery(), jobs(52), (52, "heat", 1))
        self.tells(bakery(), jobs(53), None)
        self.tells(bakery(), jobs(48), (48, "heat", 1))

    def test_two_stages_of_one_run(self):
        for rest, answer in ((10, None), (20, None)):
            self.tells(bakery(rate=3), [("twice", 1, 720, [Run(0, [10, rest, 10], 1)])], answer)
        self.tells(bakery(rate=2), [("twice", 1, 720, [Run(0, [10, 14, 10], 1)])], (24, "heat", 1))
        self.tells(bakery(rate=2), [("twice", 1, 720, [Run(0, [10, 15, 10], 1)])], None)

    def test_three_times_up_and_down(self):
        def jobs(*begins):
            names = ("bake", "hot", "bake", "hot")
            return [(name, 1, 720, [Run(begin, [10], 1)]) for name, begin in zip(names, begins)]
        self.tells(bakery(), jobs(0, 13, 26, 39), None)
        self.tells(bakery(), jobs(0, 13, 25, 39), (25, "heat", 1))
        self.tells(bakery(), jobs(0, 13, 26, 38), (38, "heat", 1))
        self.tells(bakery(), jobs(0, 12, 25, 38), (12, "heat", 1))

    def test_a_heat_of_a_stage_that_does_not_bake_means_nothing(self):
        self.tells(bakery(heat=0, rate=1), [("rest", 1, 720, [Run(0, [10])]), ("knead", 1, 720, [Run(0, [10])])], None)

    def test_a_stage_of_length_0_does_not_bake(self):
        for heat in (0, 230):
            self.tells(bakery(heat=heat), [("bake", 1, 720, [Run(5, [0], 1)])], (5, "short", 1))

    def test_the_least_number(self):
        self.tells(*self.pair(0, 0, ("hot", 2), ("hot", 1)), (0, "heat", 1))
        self.tells(*self.pair(0, 1, ("hot", 2), ("hot", 1)), (0, "heat", 2))


def culprit(word, minute):
    """Jobs with just one fault, of that word at that minute, and its number where the jobs stand at a place."""
    runs = {
        "door": [("rest", minute, Run(minute - 5, [10]))],
        "short": [("rest", 720, Run(minute - 9, [9]))],
        "long": [("rest", 720, Run(minute - 20, [25]))],
        "hands": [("knead", 720, Run(minute - 3, [10])), ("knead", 720, Run(minute, [10]))],
        "bench": [("shape", 720, Run(minute, [10])), ("shape", 720, Run(minute - 9, [10]))],
        "room": [("bake", 720, Run(minute, [10], 2))],
        "heat": [("hot", 720, Run(minute, [10], 3))],
    }
    loaves = {"room": 11}
    return [(name, loaves.get(word, 1), due, [run]) for name, due, run in runs[word]]


class TestWhichGoesFirst(Faults):
    def setUp(self):
        # The second oven has too little room for eleven loaves, the third is too slow for any heat.
        ovens = [Oven(12, 10, 200), Oven(10, 10, 200), Oven(12, 1, 0)]
        self.bakery = Bakery(720, 1, 1, ovens, list(BREADS))
        # An order of two batches parts the orders' numbers from the batches'.
        self.quiet = ("rest", 13, 720, [Run(0, [10]), Run(0, [10])])

    def check(self, told, first):
        """told: words with their minutes, in the order of the orders; first: the place of the one that is due."""
        jobs, numbers = [self.quiet], []
        for word, minute in told:
            order = len(jobs) + 1
            numbers.append({"door": order, "short": order + 1, "long": order + 1, "room": 2, "heat": 3}.get(word, 0))
            jobs += culprit(word, minute)
        word, minute = told[first]
        self.tells(self.bakery, jobs, (minute, word, numbers[first]))

    def test_each_alone(self):
        for word in FAULTS:
            for minute in (50, 100, 199):
                self.check([(word, minute)], 0)

    def test_the_first_word_of_any_at_one_minute(self):
        for count in range(2, 8):
            for words in itertools.combinations(FAULTS, count):
                self.check([(word, 100) for word in words], 0)
                self.check([(word, 100) for word in reversed(words)], count - 1)

    def test_the_least_minute_whatever_the_word(self):
        for one, other in itertools.permutations(FAULTS, 2):
            for minute in (101, 105, 150):
                self.check([(one, 100), (other, minute)], 0)
                self.check([(other, minute), (one, 100)], 1)

    def test_all_of_them_at_minutes_apart(self):
        for turn in range(7):
            words = FAULTS[turn:] + FAULTS[:turn]
            told = [(word, 100 + 2 * place) for place, word in enumerate(words)]
            self.check(told, 0)
            self.check(list(reversed(told)), 6)

    def test_beyond_the_nights_end(self):
        # What goes wrong behind the night comes behind the order's time.
        asked = bakery(night=100)
        behind = [Run(150, [9])]
        self.tells(asked, [("rest", 1, 100, behind)], (100, "door", 1))
        self.tells(asked, [("rest", 1, 20, [Run(0, [10])]), ("rest", 1, 60, behind)], (60, "door", 2))
        self.tells(asked, [("rest", 1, 100, [Run(1440, [720])])], (100, "door", 1))
        jobs = [("knead", 1, 100, [Run(95, [10])]), ("knead", 1, 99, [Run(103, [10])])]
        self.tells(asked, jobs, (99, "door", 2))
        self.tells(asked, [("rest", 1, 100, [Run(91, [9])])], (100, "short", 1))
        self.tells(asked, [("rest", 1, 100, [Run(75, [25])])], (95, "long", 1))
        self.tells(asked, [("rest", 1, 100, [Run(80, [25])])], (100, "door", 1))


class TestAgainstWalking(unittest.TestCase):
    def all_words(self, answers):
        """Each word, and None, must have been the answer often enough for the comparison to say something."""
        words = [answer and answer[1] for answer in answers]
        for word in FAULTS + (None,):
            self.assertGreater(words.count(word), 30, word)

    def test_fault(self):
        chance = random.Random(19)
        answers = []
        for case in range(3000):
            asked, orders, plan = drawn(chance)
            answers.append(first_of(walked(asked, orders, plan)))
            self.assertEqual(fault(asked, orders, plan), answers[-1], case)
        self.all_words(answers)

    def test_late(self):
        chance = random.Random(20)
        answers = []
        for case in range(1500):
            asked, orders, plan = drawn(chance)
            for batch, run in enumerate(plan, start=1):
                minutes = chance.choice((1, 2, 5, 30, 720))
                moved = plan[:batch - 1] + [Run(run.begin + minutes, run.lengths, run.oven)] + plan[batch:]
                answers.append(first_of(walked(asked, orders, moved)))
                self.assertEqual(late(asked, orders, plan, batch, minutes), answers[-1], case)
        self.all_words(answers)

    def test_heats(self):
        chance = random.Random(21)
        told = 0
        for case in range(1500):
            asked, orders, plan = drawn(chance)
            found = walked(asked, orders, plan)
            for number, oven in enumerate(asked.ovens, start=1):
                if found:
                    with self.assertRaises(Faulty, msg=case):
                        heats(asked, orders, plan, number)
                else:
                    row = course(oven, wanted_in(asked, orders, plan, number))
                    self.assertEqual(heats(asked, orders, plan, number), row, case)
                    told += len(set(row)) > 1
        self.assertGreater(told, 30)


class TestLate(unittest.TestCase):
    def setUp(self):
        self.bakery = bakery(rooms=(10, 10))
        self.orders, self.plan = asked_for([
            ("rye", 15, 60, [Run(0, [10, 10, 10], 1), Run(10, [10, 10, 10], 2)]),
            ("rest", 1, 720, [Run(0, [10])]),
            ("hot", 1, 54, [Run(43, [10], 2)]),
        ])

    def tells(self, batch, minutes, answer):
        handed = (self.bakery, self.orders, self.plan)
        before = seen(handed)
        told = late(self.bakery, self.orders, self.plan, batch, minutes)
        self.assertEqual(told, answer, (batch, minutes))
        self.assertEqual(seen(handed), before)

    def refuses(self, refusal, batch, minutes):
        handed = (self.bakery, self.orders, self.plan)
        before = seen(handed)
        with self.assertRaises(refusal, msg=repr((batch, minutes))):
            late(self.bakery, self.orders, self.plan, batch, minutes)
        self.assertEqual(seen(handed), before)

    def test_late_by_1(self):
        self.assertIsNone(fault(self.bakery, self.orders, self.plan))
        self.tells(1, 1, (10, "hands", 0))
        self.tells(2, 1, (43, "heat", 2))
        self.tells(3, 1, None)
        self.tells(4, 1, None)

    def test_late_by_2_and_more(self):
        self.tells(4, 2, (54, "door", 3))
        self.tells(3, 10, None)
        self.tells(1, 20, None)
        self.tells(1, 30, None)
        self.tells(1, 31, (60, "door", 1))

    def test_late_by_710_and_720(self):
        self.tells(3, 710, None)
        self.tells(3, 711, (720, "door", 2))
        self.tells(3, 720, (720, "door", 2))
        self.tells(1, 720, (60, "door", 1))
        self.tells(2, 720, (60, "door", 1))
        self.tells(4, 720, (54, "door", 3))

    def test_by_their_names(self):
        told = late(bakery=self.bakery, orders=self.orders, plan=self.plan, batch=4, minutes=2)
        self.assertEqual(told, (54, "door", 3))

    def test_lateness_may_mend_a_fault(self):
        orders, plan = asked_for([("hot", 1, 90, [Run(2, [10], 1)])])
        self.assertEqual(fault(bakery(), orders, plan), (2, "heat", 1))
        self.assertIsNone(late(bakery(), orders, plan, 1, 1))

    def test_the_others_stay_in_a_plan_that_has_a_fault(self):
        orders, plan = asked_for([("rest", 1, 90, [Run(0, [9])]), ("rest", 1, 90, [Run(0, [10])])])
        self.assertEqual(late(bakery(), orders, plan, 2, 1), (9, "short", 1))
        self.assertEqual(late(bakery(), orders, plan, 1, 1), (10, "short", 1))

    def test_one_run_that_stands_there_twice(self):
        # Only the batch of that number is late, though both are one object.
        orders, run = [Order("rest", 20, 10)], Run(0, [10])
        plan = [run, run]
        self.assertEqual(late(bakery(), orders, plan, 1, 1), (10, "door", 1))
        self.assertEqual((run.begin, run.end()), (0, 10))
        orders, run = [Order("knead", 20, 90)], Run(0, [10])
        self.assertEqual(fault(bakery(), orders, [run, run]), (0, "hands", 0))
        self.assertEqual(late(bakery(), orders, [run, run], 2, 9), (9, "hands", 0))
        self.assertIsNone(late(bakery(), orders, [run, run], 2, 10))

    def test_a_late_begin_beyond_1440(self):
        orders, plan = asked_for([("rest", 1, 90, [Run(1440, [720])])])
        self.assertEqual(late(bakery(), orders, plan, 1, 720), (90, "door", 1))

    def test_other_minutes(self):
        for batch in (1, 2, 3, 4):
            for minutes in (0, -1, 721, 722) + FAR:
                self.refuses(BadNumber, batch, minutes)

    def test_other_batches(self):
        for batch in (0, -1, -4, 5, 6) + FAR:
            self.refuses(NoBatch, batch, 1)
            self.refuses(NoBatch, batch, 720)

    def test_batch_ahead_of_minutes(self):
        for batch, minutes in itertools.product((0, -1, 5, 10 ** 40), (0, -1, 721, 10 ** 40)):
            self.refuses(NoBatch, batch, minutes)

    def test_without_orders_no_batch_has_a_number(self):
        for batch in (0, 1, -1):
            with self.assertRaises(NoBatch):
                late(bakery(), [], [], batch, 1)


class TestHeats(unittest.TestCase):
    def tells(self, asked, jobs, oven, answer):
        orders, plan = asked_for(jobs)
        handed = (asked, orders, plan)
        before = seen(handed)
        told = heats(asked, orders, plan, oven)
        self.assertIs(type(told), list)
        self.assertEqual(told, answer)
        self.assertEqual(len(told), asked.night + 1)
        self.assertEqual(seen(handed), before)

    def refuses(self, refusal, asked, jobs, oven):
        orders, plan = asked_for(jobs)
        handed = (asked, orders, plan)
        before = seen(handed)
        with self.assertRaises(refusal, msg=repr(oven)):
            heats(asked, orders, plan, oven)
        self.assertEqual(seen(handed), before)

    def test_nothing_bakes(self):
        for night in (1, 2, 100, 719, 720):
            for heat in (0, 200, 300):
                self.tells(bakery(night, heat=heat), [], 1, [heat] * (night + 1))
        self.tells(bakery(40), [("knead", 1, 40, [Run(0, [10])])], 1, [200] * 41)

    def test_up_to_one_baking(self):
        jobs = [("bake", 3, 40, [Run(30, [10], 1)])]
        self.tells(bakery(40, heat=0), jobs, 1, list(range(0, 200, 10)) + [200] * 21)
        self.tells(bakery(50, heat=230), jobs, 1, [230, 220, 210] + [200] * 48)
        self.tells(bakery(40, heat=50, rate=100), jobs, 1, [50, 150] + [200] * 39)

    def test_from_one_baking_to_another(self):
        begins = (("bake", 0), ("hot", 14), ("bake", 29))
        jobs = [(name, 3, 40, [Run(begin, [10], 1)]) for name, begin in begins]
        row = [200] * 10 + [200, 210, 220, 230] + [230] * 10 + [230, 220, 210, 200, 200] + [200] * 12
        self.tells(bakery(40), jobs, 1, row)
        self.tells(bakery(40), jobs[1:] + jobs[:1], 1, row)

    def test_two_stages_of_one_run(self):
        self.tells(bakery(40, rate=7), [("twice", 3, 40, [Run(2, [10, 10, 10], 1)])], 1,
                   [200] * 13 + [207, 214, 221, 228] + [230] * 24)

    def test_bakings_that_overlap(self):
        jobs = [("bake", 3, 40, [Run(begin, [length], 1)]) for begin, length in ((20, 15), (25, 11), (21, 10))]
        self.tells(bakery(40, heat=0), jobs, 1, list(range(0, 200, 10)) + [200] * 21)

    def test_each_oven_by_itself(self):
        asked = Bakery(30, 1, 1, [Oven(10, 10, 200), Oven(10, 50, 80), Oven(10, 1, 7)], list(BREADS))
        jobs = [("hot", 1, 30, [Run(3, [10], 1)]), ("bake", 1, 30, [Run(15, [10], 2)])]
        self.tells(asked, jobs, 1, [200, 210, 220] + [230] * 28)
        self.tells(asked, jobs, 2, [80, 130, 180] + [200] * 28)
        self.tells(asked, jobs, 3, [7] * 31)

    def test_up_to_the_nights_last_minute(self):
        self.tells(bakery(720, heat=0, rate=1), [("bake", 1, 720, [Run(710, [10], 1)])], 1,
                   list(range(200)) + [200] * 521)
        self.tells(bakery(10), [("bake", 1, 10, [Run(0, [10], 1)])], 1, [200] * 11)

    def test_other_ovens(self):
        for count in (1, 2, 3):
            asked = bakery(rooms=(10,) * count)
            for oven in (0, -1, -count, count + 1, count + 2) + FAR:
                self.refuses(NoOven, asked, [("bake", 1, 720, [Run(0, [10], 1)])], oven)
                self.refuses(NoOven, asked, [], oven)

    def test_a_plan_with_a_fault(self):
        asked = Bakery(720, 1, 1, [Oven(12, 10, 200), Oven(10, 10, 200), Oven(12, 1, 0)], list(BREADS))
        for word in FAULTS:
            orders, plan = asked_for(culprit(word, 100))
            self.assertEqual(fault(asked, orders, plan)[:2], (100, word))
            for oven in (1, 2, 3):
                self.refuses(Faulty, asked, culprit(word, 100), oven)

    def test_a_plan_that_bakes_beyond_the_night(self):
        self.refuses(Faulty, bakery(20), [("bake", 1, 20, [Run(15, [10], 1)])], 1)
        self.refuses(Faulty, bakery(20), [("bake", 1, 20, [Run(1440, [10], 1)])], 1)

    def test_oven_ahead_of_fault(self):
        for word in FAULTS:
            for oven in (0, 4, 10 ** 40):
                asked = Bakery(720, 1, 1, [Oven(12, 10, 200), Oven(10, 10, 200), Oven(12, 1, 0)], list(BREADS))
                self.refuses(NoOven, asked, culprit(word, 100), oven)

    def test_the_told_list_belongs_to_the_caller(self):
        asked = bakery(20)
        orders, plan = asked_for([("bake", 1, 20, [Run(0, [10], 1)])])
        told = heats(asked, orders, plan, 1)
        told[0] = 99
        told.append(5)
        self.assertEqual(heats(asked, orders, plan, 1), [200] * 21)
        heats(asked, [], [], 1).clear()
        self.assertEqual(heats(asked, [], [], 1), [200] * 21)

    def test_by_their_names(self):
        self.assertEqual(heats(bakery=bakery(1), orders=[], plan=[], oven=1), [200, 200])


if __name__ == "__main__":
    unittest.main()
