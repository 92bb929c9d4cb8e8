"""How the planner's answers are compared with a search through every way of every batch."""

import unittest

from doughhours.errors import NoPlan
from doughhours.faults import fault
from doughhours.planner import few, last_begin, latest, slack, ways
from doughhours.plans import Run
from models import Search, as_tuples
from samples import seen


class Planned(unittest.TestCase):
    def agrees(self, asked, orders):
        """Asks all that the planner tells of some orders; gives back what the search knows of them."""
        search = Search(asked, orders)
        before = seen((asked, orders))
        self.same_ways(asked, orders, search.ways)
        if search.good:
            self.same_plans(search)
        else:
            self.no_plans(asked, orders, len(search.ways))
        self.same_few(search)
        self.assertEqual(seen((asked, orders)), before)
        return search

    def same_ways(self, asked, orders, rows):
        for number, row in enumerate(rows, start=1):
            told = ways(asked, orders, number)
            self.assertIs(type(told), list)
            self.assertEqual({type(run) for run in told} - {Run}, set())
            self.assertEqual(sorted(as_tuples(told)), sorted(row), number)

    def good(self, search, plan):
        self.assertIs(type(plan), list)
        self.assertEqual({type(run) for run in plan} - {Run}, set())
        self.assertIn(as_tuples(plan), search.good)
        self.assertIsNone(fault(search.asked, search.orders, plan))

    def same_plans(self, search):
        asked, orders = search.asked, search.orders
        plan = latest(asked, orders)
        self.good(search, plan)
        begins = [run.begin for run in plan]
        self.assertEqual(begins, search.begins())
        for number, minute in enumerate(search.last(), start=1):
            told = last_begin(asked, orders, number)
            self.assertIs(type(told), tuple)
            self.assertEqual((len(told), told[0]), (2, minute), number)
            self.good(search, told[1])
            self.assertEqual(told[1][number - 1].begin, minute)
        told = slack(asked, orders)
        self.assertIs(type(told), list)
        self.assertEqual(told, [last - begin for last, begin in zip(search.last(), begins)])

    def no_plans(self, asked, orders, count):
        for ask in (latest, slack):
            with self.assertRaises(NoPlan):
                ask(asked, orders)
        for number in range(1, count + 1):
            with self.assertRaises(NoPlan):
                last_begin(asked, orders, number)

    def same_few(self, search):
        told = few(search.asked, search.orders)
        self.assertIs(type(told), list)
        if search.good:
            self.assertEqual(told, [])
        else:
            self.assertNotEqual(told, [])
            self.assertEqual(told, sorted(set(told)))
            self.assertEqual(set(told) - set(range(1, len(search.orders) + 1)), set())
            self.assertEqual(self.good_among(search, told), [], told)
            for number in told:
                rest = [other for other in told if other != number]
                self.assertNotEqual(self.good_among(search, rest), [], (told, number))

    def good_among(self, search, numbers):
        return Search(search.asked, [search.orders[number - 1] for number in numbers]).good
