"""What goes wrong in a plan, and how the ovens' heats go where nothing does."""

from doughhours.checks import check_batch, check_number
from doughhours.errors import Faulty, NoOven
from doughhours.ovens import NOTHING_BAKES, between, course
from doughhours.plans import Run, count_of, fitted, lasting, loaves_in, parts_of
from doughhours.times import NIGHT

FAULTS = ("door", "short", "long", "hands", "bench", "room", "heat")


def rank(found):
    return (found[0], FAULTS.index(found[1]), found[2])


def fault(bakery, orders, plan):
    parts = parts_of(bakery, orders, plan)
    row = door_faults(bakery, orders, plan) + length_faults(parts)
    row += held_faults(bakery, parts) + heat_faults(bakery, parts)
    return min(row, key=rank, default=None)


def door_faults(bakery, orders, plan):
    row = []
    for batch, run in zip(fitted(bakery, orders, plan), plan):
        due = orders[batch.order - 1].due
        if run.end() > due:
            row.append((due, "door", batch.order))
    return row


def length_faults(parts):
    row = []
    for part in parts:
        length = part.until - part.begin
        if length < part.stage.least:
            row.append((part.until, "short", part.batch))
        if length > part.stage.most:
            row.append((part.begin + part.stage.most, "long", part.batch))
    return row


def beginnings(parts):
    return sorted(set([part.begin for part in parts]))


def held_faults(bakery, parts):
    # What is held grows only where a stage begins, so too much of it is first held at such a minute.
    row = []
    for minute in beginnings(parts):
        now = lasting(parts, minute)
        if count_of(now, "hands") > bakery.hands:
            row.append((minute, "hands", 0))
        if count_of(now, "bench") > bakery.benches:
            row.append((minute, "bench", 0))
        for number, oven in enumerate(bakery.ovens, start=1):
            if loaves_in(now, number) > oven.room:
                row.append((minute, "room", number))
    return row


def heat_faults(bakery, parts):
    # While no stage begins an oven goes on as it was, so its first fault is where one begins.
    row = []
    for number, oven in enumerate(bakery.ovens, start=1):
        baking = [part for part in parts if part.oven == number and part.begin < part.until]
        for minute in beginnings(baking):
            if heat_fails(oven, baking, minute):
                row.append((minute, "heat", number))
    return row


def heat_fails(oven, baking, minute):
    wanted = [part.stage.heat for part in lasting(baking, minute)]
    if min(wanted) != max(wanted):
        return True
    # Where unlike heats were wanted last, the oven has failed before: then it is open which of them counts.
    before = [(min(part.until, minute), part.stage.heat) for part in baking if part.begin < minute]
    last = max(before, default=(0, oven.heat))
    return minute - last[0] < between(last[1], wanted[0], oven.rate)


def late(bakery, orders, plan, batch, minutes):
    check_batch(batch, len(fitted(bakery, orders, plan)))
    check_number(minutes, 1, NIGHT)
    run = plan[batch - 1]
    changed = list(plan)
    changed[batch - 1] = Run(run.begin + minutes, list(run.lengths), run.oven)
    return fault(bakery, orders, changed)


def heats(bakery, orders, plan, oven):
    parts = parts_of(bakery, orders, plan)
    count = len(bakery.ovens)
    if not 1 <= oven <= count:
        raise NoOven(f"no oven {oven} among {count}")
    if fault(bakery, orders, plan) is not None:
        raise Faulty("the plan has a fault")
    return course(bakery.ovens[oven - 1], wanted_heats(bakery.night, parts, oven))


def wanted_heats(night, parts, oven):
    row = [NOTHING_BAKES] * night
    for part in parts:
        if part.oven == oven:
            for minute in range(part.begin, part.until):
                row[minute] = part.stage.heat
    return row
