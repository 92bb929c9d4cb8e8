import itertools
import unittest

from doughhours.bakery import Bakery
from doughhours.breads import Bread, Stage
from doughhours.errors import BadCount, BadNumber, NoBread, TwiceNamed
from doughhours.ovens import Oven
from samples import FAR, seen

NAMES = ("rye", "wheat", "spelt", "oat", "barley", "corn", "millet", "emmer")
MOST = {"night": 720, "hands": 6, "benches": 6}
GOOD = {"night": 600, "hands": 2, "benches": 3}


def ovens(count):
    return [Oven(10, 20, 30 + number) for number in range(count)]


def breads(names):
    return [Bread(name, [Stage("rising", 5, 10, "nothing")]) for name in names]


def numbers(**others):
    told = {**GOOD, **others}
    return (told["night"], told["hands"], told["benches"])


def bad_numbers():
    for name, most in MOST.items():
        for bad in (0, -1, most + 1, most + 2) + FAR:
            yield numbers(**{name: bad})
    yield (0, 7, 0)
    yield (721, 0, 7)


# Each of these lists of breads has two of one name.
TWINS = (["rye", "rye"], ["rye", "oat", "rye"], list(NAMES[:7]) + ["wheat"])


class TestNumbers(unittest.TestCase):
    def test_at_their_bounds(self):
        for night, hands, benches in itertools.product((1, 2, 719, 720), (1, 2, 5, 6), (1, 2, 5, 6)):
            made = Bakery(night, hands, benches, ovens(1), breads(["rye"]))
            self.assertEqual((made.night, made.hands, made.benches), (night, hands, benches))

    def test_out_of_bounds(self):
        for bad in bad_numbers():
            with self.assertRaises(BadNumber, msg=repr(bad)):
                Bakery(*bad, ovens(1), breads(["rye"]))


class TestCounts(unittest.TestCase):
    def test_ovens(self):
        for count in (1, 2, 3):
            self.assertEqual(len(Bakery(*numbers(), ovens(count), breads(["rye"])).ovens), count)
        for count in (0, 4, 5, 100):
            with self.assertRaises(BadCount, msg=count):
                Bakery(*numbers(), ovens(count), breads(["rye"]))

    def test_breads(self):
        for count in range(1, 9):
            self.assertEqual(len(Bakery(*numbers(), ovens(1), breads(NAMES[:count])).breads), count)
        many = [first + second for first, second in itertools.product("abcdefghij", repeat=2)]
        for count in (0, 9, 10, 100):
            with self.assertRaises(BadCount, msg=count):
                Bakery(*numbers(), ovens(1), breads(many[:count]))

    def test_alike_ovens_may_stand_in_it(self):
        oven = Oven(1, 2, 3)
        self.assertEqual(Bakery(*numbers(), [oven, oven, Oven(1, 2, 3)], breads(["rye"])).ovens[:2], (oven, oven))


class TestNames(unittest.TestCase):
    def test_two_of_one_name_at_any_two_places(self):
        for count in range(2, 9):
            for one, other in itertools.combinations(range(count), 2):
                names = list(NAMES[:count])
                names[other] = names[one]
                with self.assertRaises(TwiceNamed, msg=repr(names)):
                    Bakery(*numbers(), ovens(1), breads(names))

    def test_one_bread_that_stands_there_twice(self):
        rye = breads(["rye"])[0]
        with self.assertRaises(TwiceNamed):
            Bakery(*numbers(), ovens(1), [rye, rye])

    def test_one_name_for_unlike_breads(self):
        other = Bread("rye", [Stage("baking", 1, 2, "oven", 200)])
        with self.assertRaises(TwiceNamed):
            Bakery(*numbers(), ovens(1), breads(["rye"]) + [other])

    def test_names_that_are_nearly_alike(self):
        begun = ["r", "ry", "rye", "ryes", "ryess", "ryesss", "rr", "yr"]
        one_sign = ["rye", "bye", "rae", "ryf", "eyr", "yer", "ery", "rey"]
        long = ["a" * 12, "a" * 11, "a" * 11 + "b", "b" + "a" * 11, "a" * 5 + "b" + "a" * 6, "a", "b", "aa"]
        for names in (begun, one_sign, long):
            made = Bakery(*numbers(), ovens(1), breads(names))
            self.assertEqual([made.bread_of(name).name for name in names], names)
            self.assertEqual([made.bread_of(name) for name in names], list(made.breads))

    def test_stages_may_be_named_like_breads(self):
        bread = Bread("rye", [Stage("rye", 1, 2, "hands"), Stage("rye", 1, 2, "hands")])
        self.assertIs(Bakery(*numbers(), ovens(1), [bread]).bread_of("rye"), bread)


class TestWhichGoesFirst(unittest.TestCase):
    def test_number_ahead_of_count(self):
        for bad in bad_numbers():
            for baking, names in ((0, NAMES), (4, NAMES), (1, []), (1, NAMES + ("einkorn",)), (0, []), (4, [])):
                with self.assertRaises(BadNumber, msg=repr((bad, baking, names))):
                    Bakery(*bad, ovens(baking), breads(names))

    def test_number_ahead_of_twins(self):
        for bad, names in itertools.product(bad_numbers(), TWINS):
            with self.assertRaises(BadNumber, msg=repr((bad, names))):
                Bakery(*bad, ovens(1), breads(names))

    def test_count_ahead_of_twins(self):
        for baking, names in itertools.product((0, 4, 100), TWINS):
            with self.assertRaises(BadCount, msg=repr((baking, names))):
                Bakery(*numbers(), ovens(baking), breads(names))
        for names in (["rye"] * 9, list(NAMES) + ["rye"], list(NAMES) + ["emmer"]):
            with self.assertRaises(BadCount, msg=repr(names)):
                Bakery(*numbers(), ovens(1), breads(names))

    def test_number_ahead_of_count_and_twins(self):
        for bad in bad_numbers():
            with self.assertRaises(BadNumber, msg=repr(bad)):
                Bakery(*bad, ovens(4), breads(["rye"] * 9))


class TestFields(unittest.TestCase):
    def setUp(self):
        self.ovens = ovens(3)
        self.breads = breads(NAMES)

    def check(self, made, baking, kinds):
        self.assertIs(type(made.ovens), tuple)
        self.assertIs(type(made.breads), tuple)
        self.assertEqual(made.ovens, tuple(baking))
        self.assertEqual(made.breads, tuple(kinds))

    def test_in_the_handed_order(self):
        for turn in range(3):
            baking = self.ovens[turn:] + self.ovens[:turn]
            kinds = self.breads[turn:] + self.breads[:turn]
            self.check(Bakery(*numbers(), baking, kinds), baking, kinds)

    def test_by_their_names(self):
        made = Bakery(night=7, hands=2, benches=3, ovens=self.ovens, breads=self.breads)
        self.assertEqual((made.night, made.hands, made.benches), (7, 2, 3))
        self.check(made, self.ovens, self.breads)

    def test_stay_when_the_handed_lists_are_changed(self):
        baking, kinds = list(self.ovens), list(self.breads)
        made = Bakery(*numbers(), baking, kinds)
        baking.reverse()
        kinds.reverse()
        self.check(made, self.ovens, self.breads)
        baking.append(Oven(1, 1, 1))
        kinds.extend(breads(["einkorn"]))
        self.check(made, self.ovens, self.breads)
        with self.assertRaises(NoBread):
            made.bread_of("einkorn")
        baking.clear()
        kinds.clear()
        self.check(made, self.ovens, self.breads)
        self.assertIs(made.bread_of("oat"), self.breads[3])

    def test_the_handed_lists_stay_as_they_are(self):
        handed = (self.ovens, self.breads)
        before = seen(handed)
        made = Bakery(*numbers(), self.ovens, self.breads)
        made.bread_of("oat")
        with self.assertRaises(NoBread):
            made.bread_of("")
        self.assertEqual(seen(handed), before)

    def test_a_refusal_leaves_the_handed_lists_as_they_are(self):
        cases = (
            (numbers(night=0), 3, list(NAMES), BadNumber),
            (numbers(), 4, list(NAMES), BadCount),
            (numbers(), 3, ["rye", "oat", "rye"], TwiceNamed),
        )
        for told, count, names, refusal in cases:
            handed = (ovens(count), breads(names))
            before = seen(handed)
            with self.assertRaises(refusal):
                Bakery(*told, *handed)
            self.assertEqual(seen(handed), before)

    def test_two_bakeries_are_apart(self):
        one = Bakery(1, 2, 3, self.ovens[:1], self.breads[:1])
        other = Bakery(4, 5, 6, self.ovens[1:], self.breads[1:])
        self.assertEqual((one.night, one.hands, one.benches), (1, 2, 3))
        self.check(one, self.ovens[:1], self.breads[:1])
        self.assertEqual((other.night, other.hands, other.benches), (4, 5, 6))
        self.check(other, self.ovens[1:], self.breads[1:])


class TestBreadOf(unittest.TestCase):
    def setUp(self):
        self.breads = breads(NAMES)
        self.bakery = Bakery(*numbers(), ovens(1), self.breads)

    def test_each_bread(self):
        for bread in self.breads:
            self.assertIs(self.bakery.bread_of(bread.name), bread)
            # Found from its signs, not from the very text that it was made of.
            self.assertIs(self.bakery.bread_of("".join(list(bread.name))), bread)

    def test_names_that_no_bread_has(self):
        others = ["", " ", "~" * 40, "einkorn", "rising", "0"]
        for name in NAMES:
            others += [name + "s", "s" + name, name[1:], name[:-1], name + " ", " " + name, name[::-1]]
            others += [name.upper(), name.capitalize(), name[:-1] + name[-1].upper(), name + name]
        for name in others:
            with self.assertRaises(NoBread, msg=repr(name)):
                self.bakery.bread_of(name)

    def test_a_bakery_of_one_bread(self):
        made = Bakery(*numbers(), ovens(1), self.breads[:1])
        self.assertIs(made.bread_of("rye"), self.breads[0])
        for name in NAMES[1:]:
            with self.assertRaises(NoBread, msg=name):
                made.bread_of(name)


if __name__ == "__main__":
    unittest.main()
