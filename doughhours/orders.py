"""Orders, and the batches that they are cut into."""

from doughhours.checks import check_count, check_number
from doughhours.errors import BeyondNight, TooMany

MOST_LOAVES = 60
MOST_ORDERS = 12
MOST_BATCHES = 24


class Order:
    def __init__(self, bread, loaves, due):
        check_number(loaves, 1, MOST_LOAVES)
        self.bread = bread
        self.loaves = loaves
        self.due = due


class Batch:
    def __init__(self, order, first, loaves):
        self.order = order
        self.first = first
        self.loaves = loaves


def greatest(bakery):
    return max([oven.room for oven in bakery.ovens])


def check_due(due, night):
    if not 0 <= due <= night:
        raise BeyondNight(f"minute {due} does not lie from 0 to {night}")


def accept(bakery, orders):
    # A loop for each refusal: one that goes ahead may be due at a later order.
    check_count(len(orders), 0, MOST_ORDERS)
    for order in orders:
        bakery.bread_of(order.bread)
    for order in orders:
        check_due(order.due, bakery.night)
    count = len(batches_of(orders, greatest(bakery)))
    if count > MOST_BATCHES:
        raise TooMany(f"{count} batches, not at most {MOST_BATCHES}")


def batches_of(orders, most):
    row = []
    for number, order in enumerate(orders, start=1):
        for first in range(1, order.loaves + 1, most):
            left = order.loaves - first + 1
            row.append(Batch(number, first, min(most, left)))
    return row


def cut(bakery, orders):
    accept(bakery, orders)
    return batches_of(orders, greatest(bakery))
