"""The planner of small nights: the ways that a batch can go, and how late all of them together can begin."""

from doughhours.checks import check_batch
from doughhours.errors import NoPlan, TooWide
from doughhours.faults import fault
from doughhours.orders import cut
from doughhours.plans import Run, bread_in
from doughhours.times import MOST_WAYS, STEP, WIDEST

MOST_PLANNED = 3
MOST_STEPPED = 4


def narrow(bakery, orders):
    # The batches of a small night, so that no caller can forget to ask whether it is one.
    batches = cut(bakery, orders)
    stages = [len(bakery.bread_of(order.bread).stages) for order in orders]
    if bakery.night > WIDEST or len(batches) > MOST_PLANNED or max(stages, default=0) > MOST_STEPPED:
        raise TooWide("the night, the batches or a bread's stages are more than the planner goes through")
    return batches


def steps(lowest, highest):
    first = (lowest + STEP - 1) // STEP * STEP
    return list(range(first, highest + 1, STEP))


def lengths_within(stages, minutes):
    # Too long ones are left out stage by stage: all lengths beside one another would be far more.
    rows = [[]]
    for stage in stages:
        longer = []
        for row in rows:
            longer += [row + [length] for length in steps(stage.least, min(stage.most, minutes - sum(row)))]
        rows = longer
    return rows


def ovens_for(bakery, bread, loaves):
    if not bread.bakes():
        return [0]
    return [number for number, oven in enumerate(bakery.ovens, start=1) if oven.room >= loaves]


def ways_of(bakery, orders, batch):
    bread = bread_in(bakery, orders, batch)
    due = orders[batch.order - 1].due
    ovens = ovens_for(bakery, bread, batch.loaves)
    row = []
    for lengths in lengths_within(bread.stages, due):
        for begin in steps(0, due - sum(lengths)):
            row += [Run(begin, lengths, oven) for oven in ovens]
    return row


def ways(bakery, orders, batch):
    batches = narrow(bakery, orders)
    check_batch(batch, len(batches))
    return ways_of(bakery, orders, batches[batch - 1])


def all_ways(bakery, orders):
    rows = []
    width = 1
    for batch in narrow(bakery, orders):
        row = ways_of(bakery, orders, batch)
        # A batch without a way must not hide how many the others have.
        width *= max(1, len(row))
        if width > MOST_WAYS:
            raise TooWide(f"the ways multiply to more than {MOST_WAYS}")
        rows.append(row)
    return rows


def plans_of(rows):
    plans = [[]]
    for row in rows:
        longer = []
        for plan in plans:
            longer += [plan + [run] for run in row]
        plans = longer
    return plans


def good_plans(bakery, orders, rows):
    return [plan for plan in plans_of(rows) if fault(bakery, orders, plan) is None]


def check_plans(plans):
    if plans == []:
        raise NoPlan("the orders have no good plan")


def lateness(plan):
    begins = [run.begin for run in plan]
    return (min(begins, default=0), begins)


def latest(bakery, orders):
    plans = good_plans(bakery, orders, all_ways(bakery, orders))
    check_plans(plans)
    return max(plans, key=lateness)


def last_begin(bakery, orders, batch):
    rows = all_ways(bakery, orders)
    check_batch(batch, len(rows))
    plans = good_plans(bakery, orders, rows)
    check_plans(plans)
    last = max(plans, key=lambda plan: plan[batch - 1].begin)
    return (last[batch - 1].begin, last)


def slack(bakery, orders):
    plans = good_plans(bakery, orders, all_ways(bakery, orders))
    check_plans(plans)
    row = []
    for place, run in enumerate(max(plans, key=lateness)):
        row.append(max([plan[place].begin for plan in plans]) - run.begin)
    return row


def go_together(bakery, orders):
    return good_plans(bakery, orders, all_ways(bakery, orders)) != []


def few(bakery, orders):
    if go_together(bakery, orders):
        return []
    # Orders that go together still do with one left out, so each needs to be tried but once.
    numbers = list(range(1, len(orders) + 1))
    for number in range(1, len(orders) + 1):
        rest = [other for other in numbers if other != number]
        if not go_together(bakery, [orders[other - 1] for other in rest]):
            numbers = rest
    return numbers
