import random
import unittest

from doughhours.errors import BadNumber, TooCold
from doughhours.ovens import Oven, between, course

FAR = (10 ** 5, 10 ** 20, 10 ** 40, -(10 ** 5), -(10 ** 20), -(10 ** 40))


def fields(oven):
    return (oven.room, oven.rate, oven.heat)


def counted(one, other, rate):
    # Point 17 by walking: a minute at a time, by at most the rate.
    minutes = 0
    while one != other:
        one += max(-rate, min(rate, other - one))
        minutes += 1
    return minutes


def walked(oven, wanted):
    # Point 18 word by word; None where it is refused.
    heats = [oven.heat]
    for minute, want in enumerate(wanted):
        now = heats[-1]
        later = [heat for heat in wanted[minute + 1:] if heat != -1]
        if want != -1:
            if now != want:
                return None
            heats.append(now)
        elif not later:
            heats.append(now)
        else:
            heats.append(now + max(-oven.rate, min(oven.rate, later[0] - now)))
    return heats


class TestOven(unittest.TestCase):
    def refuses(self, *numbers):
        with self.assertRaises(BadNumber, msg=repr(numbers)):
            Oven(*numbers)

    def test_fields(self):
        self.assertEqual(fields(Oven(12, 8, 230)), (12, 8, 230))
        self.assertEqual(fields(Oven(room=1, rate=2, heat=3)), (1, 2, 3))

    def test_numbers_at_their_bounds(self):
        for room in (1, 2, 29, 30):
            for rate in (1, 2, 299, 300):
                for heat in (0, 1, 299, 300):
                    self.assertEqual(fields(Oven(room, rate, heat)), (room, rate, heat))

    def test_room_out_of_bounds(self):
        for room in (0, -1, 31, 32) + FAR:
            self.refuses(room, 10, 20)

    def test_rate_out_of_bounds(self):
        for rate in (0, -1, 301, 302) + FAR:
            self.refuses(10, rate, 20)

    def test_heat_out_of_bounds(self):
        for heat in (-1, -2, 301, 302) + FAR:
            self.refuses(10, 20, heat)

    def test_several_numbers_out_of_bounds(self):
        self.refuses(0, 0, -1)
        self.refuses(31, 301, 301)
        self.refuses(0, 301, 0)
        self.refuses(1, 0, 301)

    def test_two_ovens_are_apart(self):
        one, other = Oven(1, 2, 3), Oven(4, 5, 6)
        self.assertEqual((fields(one), fields(other)), ((1, 2, 3), (4, 5, 6)))


class TestBetween(unittest.TestCase):
    def check(self, one, other, rate, minutes):
        with self.subTest(one=one, other=other, rate=rate):
            self.assertEqual(between(one, other, rate), minutes)
            self.assertEqual(between(other, one, rate), minutes)

    def test_the_example(self):
        self.check(0, 100, 40, 3)
        self.check(200, 300, 40, 3)

    def test_equal_heats(self):
        for heat in (0, 1, 150, 300):
            for rate in (1, 7, 300):
                self.check(heat, heat, rate, 0)

    def test_heats_one_apart(self):
        for rate in (1, 2, 299, 300):
            self.check(0, 1, rate, 1)
            self.check(299, 300, rate, 1)

    def test_round_multiples_of_the_rate(self):
        for rate in (2, 3, 7, 40, 100):
            for times in range(1, 290 // rate + 1):
                apart = rate * times
                self.check(5, 5 + apart, rate, times)
                self.check(5, 5 + apart - 1, rate, times)
                self.check(5, 5 + apart + 1, rate, times + 1)

    def test_the_widest(self):
        self.check(0, 300, 1, 300)
        self.check(0, 300, 299, 2)
        self.check(0, 300, 300, 1)

    def test_against_counting(self):
        for one in range(0, 301, 20):
            for other in range(0, 301, 13):
                for rate in (1, 3, 20, 39, 150, 300):
                    self.check(one, other, rate, counted(one, other, rate))

    def test_a_whole_number_is_told(self):
        self.assertIs(type(between(0, 100, 40)), int)


class TestCourse(unittest.TestCase):
    def tells(self, rate, heat, wanted, heats):
        oven = Oven(10, rate, heat)
        handed = list(wanted)
        with self.subTest(rate=rate, heat=heat, wanted=wanted[:20]):
            told = course(oven, handed)
            self.assertIs(type(told), list)
            self.assertEqual(told, heats)
            self.assertEqual(handed, wanted)
            self.assertEqual(fields(oven), (10, rate, heat))

    def refuses(self, rate, heat, wanted):
        oven = Oven(10, rate, heat)
        handed = list(wanted)
        with self.assertRaises(TooCold, msg=repr((rate, heat, wanted[:20]))):
            course(oven, handed)
        self.assertEqual(handed, wanted)
        self.assertEqual(fields(oven), (10, rate, heat))

    def test_empty_row(self):
        self.tells(10, 0, [], [0])
        self.tells(10, 200, [], [200])

    def test_nothing_bakes(self):
        self.tells(10, 0, [-1], [0, 0])
        self.tells(10, 200, [-1] * 5, [200] * 6)

    def test_a_heat_in_the_first_minute(self):
        self.tells(10, 230, [230], [230, 230])
        self.tells(10, 0, [0, 0], [0, 0, 0])
        self.refuses(10, 229, [230])
        self.refuses(10, 231, [230])
        self.refuses(300, 0, [230])
        self.refuses(300, 1, [0])
        self.refuses(300, 1, [0, -1])

    def test_reached_just_in_time(self):
        self.tells(40, 0, [-1, -1, -1, 100], [0, 40, 80, 100, 100])
        self.tells(40, 100, [-1, -1, -1, 0], [100, 60, 20, 0, 0])
        self.tells(50, 0, [-1, -1, 100], [0, 50, 100, 100])
        self.tells(1, 0, [-1, 1], [0, 1, 1])
        self.tells(300, 0, [-1, 300], [0, 300, 300])

    def test_a_minute_too_late(self):
        self.refuses(40, 0, [-1, -1, 100])
        self.refuses(40, 100, [-1, -1, 0])
        self.refuses(50, 0, [-1, 100])
        self.refuses(50, 0, [-1, -1, 101])
        self.refuses(299, 0, [-1, 300])
        # A later minute with the heat doesn't mend an earlier one without it.
        self.refuses(40, 0, [-1, -1, 100, 100, -1, 100])

    def test_minutes_to_spare(self):
        self.tells(40, 0, [-1] * 5 + [100], [0, 40, 80, 100, 100, 100, 100])
        self.tells(40, 100, [-1] * 5 + [0], [100, 60, 20, 0, 0, 0, 0])
        self.tells(40, 100, [-1] * 2 + [100], [100] * 4)

    def test_a_gap_upward(self):
        self.tells(30, 180, [180, -1, -1, 240], [180, 180, 210, 240, 240])
        self.tells(30, 180, [180, -1, -1, -1, 240], [180, 180, 210, 240, 240, 240])
        self.refuses(30, 180, [180, -1, 240])
        self.refuses(30, 180, [180, -1, -1, 241])

    def test_a_gap_downward(self):
        self.tells(30, 240, [240, -1, -1, 180], [240, 240, 210, 180, 180])
        self.tells(30, 240, [240, -1, -1, -1, 180], [240, 240, 210, 180, 180, 180])
        self.refuses(30, 240, [240, -1, 180])
        self.refuses(30, 240, [240, -1, -1, 179])

    def test_a_gap_between_equal_heats(self):
        self.tells(30, 240, [240, -1, -1, 240], [240] * 5)

    def test_towards_the_next_heat_not_the_last(self):
        self.tells(100, 0, [-1, 50, -1, 150, -1, -1, 0], [0, 50, 50, 150, 150, 50, 0, 0])
        self.tells(20, 100, [-1, -1, 80, -1, 100, -1, -1, 60], [100, 80, 80, 80, 100, 100, 80, 60, 60])

    def test_nought_is_a_wanted_heat(self):
        self.tells(20, 40, [-1, -1, 0, -1, 20], [40, 20, 0, 0, 20, 20])
        self.refuses(20, 40, [-1, 0, -1, 20])

    def test_unlike_heats_in_neighbouring_minutes(self):
        self.refuses(300, 100, [100, 101])
        self.refuses(300, 100, [100, 99])
        self.refuses(300, 0, [-1, 100, 200])
        self.refuses(300, 100, [100, 100, 0])

    def test_behind_the_last_wanted_heat_it_stands(self):
        self.tells(30, 240, [240, -1, -1, -1], [240] * 5)
        self.tells(40, 20, [-1, -1, 100, -1, -1], [20, 60, 100, 100, 100, 100])

    def test_rows_of_720_minutes(self):
        self.tells(1, 0, [-1] * 720, [0] * 721)
        self.tells(1, 0, [-1] * 719 + [300], list(range(300)) + [300] * 421)
        self.tells(1, 300, [-1] * 300 + [0] * 420, list(range(300, -1, -1)) + [0] * 420)
        self.tells(5, 200, [200] * 720, [200] * 721)
        self.refuses(1, 0, [-1] * 299 + [300] * 421)
        self.refuses(5, 200, [200] * 719 + [201])

    def test_a_told_list_belongs_to_the_caller(self):
        oven = Oven(10, 40, 0)
        wanted = [-1, -1, -1, 100]
        first = course(oven, wanted)
        first[0] = 77
        first.append(5)
        first.reverse()
        self.assertEqual(course(oven, wanted), [0, 40, 80, 100, 100])
        self.assertEqual(wanted, [-1, -1, -1, 100])
        empty = []
        course(oven, empty).clear()
        self.assertEqual(empty, [])
        self.assertEqual(course(oven, empty), [0])

    def test_a_told_list_stays_when_the_handed_row_is_changed(self):
        wanted = [-1, -1, -1, 100]
        told = course(Oven(10, 40, 0), wanted)
        wanted.clear()
        self.assertEqual(told, [0, 40, 80, 100, 100])

    def test_a_refusal_changes_no_later_answer(self):
        oven = Oven(10, 40, 0)
        with self.assertRaises(TooCold):
            course(oven, [-1, -1, 100])
        self.assertEqual(course(oven, [-1, -1, -1, 100]), [0, 40, 80, 100, 100])

    def test_against_walking(self):
        chance = random.Random(18)
        told = 0
        for case in range(4000):
            rate, heat = chance.choice((1, 7, 40, 100, 300)), chance.choice((0, 3, 100, 299, 300))
            wanted = []
            for part in range(chance.randrange(6)):
                bakes = chance.choice((0, 1, 93, 100, 107, 140, 200, 300))
                wanted += [-1] * chance.randrange(6) + [bakes] * chance.randrange(3)
            heats = walked(Oven(10, rate, heat), wanted)
            if heats is None:
                self.refuses(rate, heat, wanted)
            else:
                told += 1
                self.tells(rate, heat, wanted, heats)
        # Both sides of the promise must have been asked often.
        self.assertTrue(500 < told < 3500, told)


if __name__ == "__main__":
    unittest.main()
