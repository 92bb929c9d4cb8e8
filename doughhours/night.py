"""The order book of a night: orders come and go, and it tells each time how the night can go."""

from doughhours.board import board
from doughhours.errors import NoOrder, NoPlan
from doughhours.orders import Order, accept
from doughhours.planner import few, latest


class Night:
    def __init__(self, bakery):
        self.bakery = bakery
        self.orders = []

    def put(self, bread, loaves, due):
        # The book is written anew, so that a refusal leaves it as it was.
        orders = self.orders + [Order(bread, loaves, due)]
        accept(self.bakery, orders)
        self.orders = orders
        return len(orders)

    def strike(self, number):
        count = len(self.orders)
        if not 1 <= number <= count:
            raise NoOrder(f"no order {number} among {count}")
        self.orders = self.orders[:number - 1] + self.orders[number:]
        return count - 1

    def told(self):
        try:
            return ("plan", latest(self.bakery, self.orders))
        except NoPlan:
            return ("few", few(self.bakery, self.orders))

    def page(self):
        answer = self.told()
        if answer[0] == "plan":
            return board(self.bakery, self.orders, answer[1])
        words = ["no plan for orders"] + [str(number) for number in answer[1]]
        return [" ".join(words)]
