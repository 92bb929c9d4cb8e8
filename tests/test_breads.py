import itertools
import unittest

from doughhours.breads import WANTS, Bread, Stage
from doughhours.errors import BadCount, BadName, BadNumber, BadWant

SIGNS = [chr(code) for code in range(ord(" "), ord("~") + 1)]
NO_LETTERS = [sign for sign in SIGNS if not "a" <= sign <= "z"]
GOOD_NAMES = ("a", "z", "rye", "mixing", "abcdefghijkl", "mnopqrstuvwx", "z" * 12)
BAD_NAMES = ("", "abcdefghijklm", "z" * 40, "Rye", "RYE", "rye ", " rye", "r e", "rye1", "r_e", "~", " " * 12)
BAD_WANTS = ("", "Oven", "ovens", "ove", "oven ", " oven", "nothing,", "none", "hand", "benches", "o", "~" * 40)
FAR = (10 ** 5, 10 ** 20, 10 ** 40, -(10 ** 5), -(10 ** 20), -(10 ** 40))
BAD_LENGTHS = (0, -1, 721, 722) + FAR
BAD_HEATS = (-1, -2, 301, 302) + FAR
# least, most and heat, with one or more of them out of bounds.
BAD_NUMBERS = (
    [(bad, 720, 0) for bad in BAD_LENGTHS]
    + [(1, bad, 0) for bad in BAD_LENGTHS]
    + [(bad, bad, 0) for bad in BAD_LENGTHS]
    + [(5, 10, bad) for bad in BAD_HEATS]
    + [(2, 1, 0), (720, 719, 0), (720, 1, 300), (11, 10, 0), (0, 0, -1), (721, 0, 301)]
)


def stage(least=5, most=10, want="nothing"):
    return Stage("rising", least, most, want)


def fields(made):
    return (made.name, made.least, made.most, made.want, made.heat)


class TestStage(unittest.TestCase):
    def refuses(self, refusal, *handed):
        with self.assertRaises(refusal, msg=repr(handed)):
            Stage(*handed)

    def test_wants(self):
        self.assertEqual(WANTS, ("nothing", "hands", "bench", "oven"))
        self.assertIs(type(WANTS), tuple)

    def test_fields_are_as_handed_in(self):
        self.assertEqual(fields(Stage("baking", 35, 45, "oven", 230)), ("baking", 35, 45, "oven", 230))
        for want in WANTS:
            with self.subTest(want=want):
                self.assertEqual(fields(Stage("work", 3, 4, want, 17)), ("work", 3, 4, want, 17))

    def test_heat_is_nought_where_it_is_left_out(self):
        for want in WANTS:
            with self.subTest(want=want):
                self.assertEqual(fields(Stage("work", 3, 4, want)), ("work", 3, 4, want, 0))

    def test_fields_by_their_names(self):
        made = Stage(name="work", least=3, most=4, want="oven", heat=9)
        self.assertEqual(fields(made), ("work", 3, 4, "oven", 9))

    def test_good_names(self):
        for name in GOOD_NAMES:
            with self.subTest(name=name):
                self.assertEqual(Stage(name, 1, 1, "hands").name, name)

    def test_bad_names(self):
        for name in BAD_NAMES:
            self.refuses(BadName, name, 1, 1, "hands")

    def test_a_sign_that_is_no_small_letter_at_each_place(self):
        for name in GOOD_NAMES:
            for place in range(len(name)):
                for sign in NO_LETTERS:
                    self.refuses(BadName, name[:place] + sign + name[place + 1:], 1, 1, "hands")

    def test_every_small_letter_at_each_place(self):
        for place in range(12):
            for letter in "abcdefghijklmnopqrstuvwxyz":
                name = "q" * place + letter + "q" * (11 - place)
                self.assertEqual(Stage(name, 1, 1, "hands").name, name)

    def test_numbers_at_their_bounds(self):
        for least, most in ((1, 1), (1, 2), (1, 720), (719, 720), (720, 720), (10, 10), (9, 10)):
            for heat in (0, 1, 299, 300):
                for want in WANTS:
                    with self.subTest(least=least, most=most, heat=heat, want=want):
                        made = Stage("work", least, most, want, heat)
                        self.assertEqual(fields(made), ("work", least, most, want, heat))

    def test_numbers_out_of_bounds(self):
        for least, most, heat in BAD_NUMBERS:
            for want in WANTS:
                self.refuses(BadNumber, "work", least, most, want, heat)

    def test_other_wants(self):
        for want in BAD_WANTS:
            self.refuses(BadWant, "work", 5, 10, want)

    def test_name_ahead_of_want(self):
        for name, want in itertools.product(BAD_NAMES, BAD_WANTS):
            self.refuses(BadName, name, 5, 10, want, 0)

    def test_name_ahead_of_numbers(self):
        for name, numbers in itertools.product(BAD_NAMES, BAD_NUMBERS):
            self.refuses(BadName, name, numbers[0], numbers[1], "oven", numbers[2])

    def test_want_ahead_of_numbers(self):
        for want, numbers in itertools.product(BAD_WANTS, BAD_NUMBERS):
            self.refuses(BadWant, "work", numbers[0], numbers[1], want, numbers[2])

    def test_name_ahead_of_want_and_numbers(self):
        for name, want, numbers in itertools.product(BAD_NAMES, BAD_WANTS, BAD_NUMBERS):
            self.refuses(BadName, name, numbers[0], numbers[1], want, numbers[2])

    def test_two_stages_are_apart(self):
        self.assertIsNot(stage(), stage())


class TestBread(unittest.TestCase):
    def test_fields(self):
        stages = [stage(), stage(want="hands"), stage(want="oven")]
        bread = Bread("rye", stages)
        self.assertEqual(bread.name, "rye")
        self.assertIs(type(bread.stages), tuple)
        self.assertEqual(len(bread.stages), 3)
        for kept, handed in zip(bread.stages, stages):
            self.assertIs(kept, handed)

    def test_names(self):
        for name in GOOD_NAMES:
            self.assertEqual(Bread(name, [stage()]).name, name)
        for name in BAD_NAMES:
            with self.assertRaises(BadName, msg=repr(name)):
                Bread(name, [stage()])

    def test_a_sign_that_is_no_small_letter_at_each_place(self):
        for place in range(12):
            for sign in NO_LETTERS:
                name = "q" * place + sign + "q" * (11 - place)
                with self.assertRaises(BadName, msg=repr(name)):
                    Bread(name, [stage()])

    def test_counts(self):
        for count in range(1, 7):
            with self.subTest(count=count):
                self.assertEqual(len(Bread("rye", [stage() for each in range(count)]).stages), count)
        for count in (0, 7, 8, 100):
            with self.subTest(count=count):
                with self.assertRaises(BadCount):
                    Bread("rye", [stage() for each in range(count)])

    def test_one_stage_may_stand_in_it_twice(self):
        one = stage(3, 4)
        bread = Bread("rye", [one, one])
        self.assertEqual((bread.shortest(), bread.longest()), (6, 8))

    def test_name_ahead_of_count(self):
        for name in BAD_NAMES:
            for count in (0, 7, 100):
                with self.assertRaises(BadName, msg=repr((name, count))):
                    Bread(name, [stage() for each in range(count)])

    def test_sums(self):
        cases = (
            ([(1, 1)], 1, 1),
            ([(5, 10)], 5, 10),
            ([(5, 10), (7, 7)], 12, 17),
            ([(1, 720), (2, 3), (4, 50)], 7, 773),
            ([(720, 720)] * 6, 4320, 4320),
            ([(1, 2), (3, 5), (8, 13), (21, 34), (55, 89), (144, 233)], 232, 376),
        )
        for lengths, shortest, longest in cases:
            with self.subTest(lengths=lengths):
                bread = Bread("rye", [stage(least, most) for least, most in lengths])
                self.assertEqual((bread.shortest(), bread.longest()), (shortest, longest))

    def test_bakes_by_any_one_of_its_stages(self):
        for count in range(1, 7):
            for place in range(count):
                wants = ["hands"] * count
                wants[place] = "oven"
                with self.subTest(wants=wants):
                    self.assertIs(Bread("rye", [stage(want=want) for want in wants]).bakes(), True)

    def test_bakes_where_all_its_stages_bake(self):
        self.assertIs(Bread("rye", [stage(want="oven"), stage(want="oven")]).bakes(), True)

    def test_does_not_bake_without_an_oven(self):
        for wants in (["nothing"], ["hands"], ["bench"], ["nothing", "hands", "bench", "bench", "hands", "nothing"]):
            with self.subTest(wants=wants):
                # A heat by itself is no baking.
                stages = [Stage("work", 1, 2, want, 230) for want in wants]
                self.assertIs(Bread("rye", stages).bakes(), False)

    def test_stays_as_it_was_made(self):
        one, other = stage(5, 10, "oven"), stage(7, 9, "hands")
        stages = [one, other]
        bread = Bread("rye", stages)
        stages.append(stage())
        stages[0] = other
        stages.reverse()
        self.assertEqual(bread.stages, (one, other))
        self.assertEqual((bread.shortest(), bread.longest(), bread.bakes()), (12, 19, True))
        stages.clear()
        self.assertEqual(bread.stages, (one, other))
        self.assertEqual((bread.shortest(), bread.longest(), bread.bakes()), (12, 19, True))

    def test_the_handed_list_stays_as_it_is(self):
        one, other = stage(5, 10, "oven"), stage(7, 9, "hands")
        before = [fields(one), fields(other)]
        stages = [one, other]
        bread = Bread("rye", stages)
        bread.shortest()
        bread.longest()
        bread.bakes()
        self.assertIs(type(stages), list)
        self.assertEqual(stages, [one, other])
        self.assertEqual([fields(one), fields(other)], before)

    def test_a_refusal_leaves_the_handed_list_as_it_is(self):
        one = stage()
        for name, count, refusal in (("Rye", 1, BadName), ("rye", 7, BadCount), ("", 7, BadName)):
            stages = [one] * count
            with self.assertRaises(refusal):
                Bread(name, stages)
            self.assertEqual(stages, [one] * count)

    def test_two_breads_are_apart(self):
        stages = [stage()]
        one, other = Bread("rye", stages), Bread("rye", stages + [stage()])
        self.assertIsNot(one, other)
        self.assertEqual((len(one.stages), len(other.stages)), (1, 2))


if __name__ == "__main__":
    unittest.main()
