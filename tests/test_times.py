import itertools
import re
import unittest

from doughhours import times
from doughhours.errors import BadTime
from doughhours.times import clock, minute_of

TEXTS = {
    0: "0:00", 1: "0:01", 9: "0:09", 10: "0:10", 59: "0:59", 60: "1:00", 65: "1:05", 599: "9:59", 600: "10:00",
    720: "12:00", 1439: "23:59", 1440: "24:00", 1441: "24:01", 6000: "100:00",
    10 ** 20: "1666666666666666666:40",
    10 ** 39 - 1: "1" + "6" * 37 + ":39",
    10 ** 39: "1" + "6" * 37 + ":40",
    10 ** 40: "1" + "6" * 38 + ":40",
}
SIGNS = [chr(code) for code in range(ord(" "), ord("~") + 1)]
# Told apart from the program: the form of point 3, written as a pattern.
FORM = re.compile(r"(0|[1-9][0-9]*):([0-5][0-9])")


def changed(text):
    for place in range(len(text) + 1):
        for sign in SIGNS:
            yield text[:place] + sign + text[place:]
    for place in range(len(text)):
        yield text[:place] + text[place + 1:]
        for sign in SIGNS:
            yield text[:place] + sign + text[place + 1:]


class TestNumbers(unittest.TestCase):
    def test_values(self):
        self.assertEqual((times.NIGHT, times.STEP, times.WIDEST, times.MOST_WAYS), (720, 5, 120, 2000))


class TestClock(unittest.TestCase):
    def test_texts(self):
        for minute, text in TEXTS.items():
            with self.subTest(minute=minute):
                self.assertEqual(clock(minute), text)

    def test_texts_have_the_form(self):
        for minute in range(3000):
            parts = FORM.fullmatch(clock(minute))
            self.assertEqual(int(parts[1]) * 60 + int(parts[2]), minute)


class TestMinuteOf(unittest.TestCase):
    def check(self, text):
        parts = FORM.fullmatch(text)
        if parts:
            self.assertEqual(minute_of(text), int(parts[1]) * 60 + int(parts[2]), text)
        else:
            with self.assertRaises(BadTime, msg=repr(text)):
                minute_of(text)

    def test_texts_are_read_back(self):
        for minute, text in TEXTS.items():
            with self.subTest(text=text):
                told = minute_of(text)
                self.assertIs(type(told), int)
                self.assertEqual(told, minute)

    def test_every_minute_is_read_back(self):
        for minute in list(range(3000)) + list(range(10 ** 39, 10 ** 39 + 200)):
            self.assertEqual(minute_of(clock(minute)), minute)

    def test_refused(self):
        refused = (
            "00:05", "1:5", "1:60", " 1:05", "1_0:00", "", ":", ":05", "1:", "1", "105", "1:05 ", "1: 5", "1 :05",
            "1:005", "01:05", "000:00", "0:0", "0:60", "0:99", "1:100", "+1:05", "-1:05", "1:+5", "1:-5", "-0:00",
            "1:0_5", "1:_5", "1:5_", "1:05:00", "1::05", "1.05", "1:0.", "1:0a", "a:05", "x", "1:05a", "0x1:05",
            "1e1:00", "~" * 40, " " * 40, ":" * 40, "0" * 40, "0" * 37 + ":00",
        )
        for text in refused:
            with self.subTest(text=text):
                with self.assertRaises(BadTime):
                    minute_of(text)

    def test_a_sign_put_in_taken_out_or_in_anothers_place(self):
        for text in TEXTS.values():
            for other in changed(text):
                self.check(other)

    def test_without_its_first_sign_twelve_is_two(self):
        self.assertEqual(minute_of("12:00"[1:]), 120)

    def test_all_short_texts(self):
        for length in range(6):
            for signs in itertools.product("0169: _-", repeat=length):
                self.check("".join(signs))


if __name__ == "__main__":
    unittest.main()
