"""The board: a plan written out row by row, as it hangs in the bakery."""

from doughhours.faults import fault
from doughhours.plans import bread_in, fitted, parts_of
from doughhours.times import clock


def want_text(part):
    if part.stage.want != "oven":
        return part.stage.want
    return f"oven {part.oven} at {part.stage.heat}"


def stage_rows(parts):
    rows = []
    for part in parts:
        words = [clock(part.begin), "batch", str(part.batch), part.stage.name, want_text(part)]
        rows.append((part.begin, part.batch, " ".join(words)))
    return rows


def door_rows(bakery, orders, plan):
    rows = []
    for number, batch in enumerate(fitted(bakery, orders, plan), start=1):
        end = plan[number - 1].end()
        name = bread_in(bakery, orders, batch).name
        words = [clock(end), "batch", str(number), "door", str(batch.loaves), name, "for order", str(batch.order)]
        rows.append((end, number, " ".join(words)))
    return rows


def last_text(found):
    if found is None:
        return "all is well"
    words = ["fault at", clock(found[0]) + ":", found[1], str(found[2])]
    return " ".join(words)


def board(bakery, orders, plan):
    # Sorting keeps equal rows as they stand: each run's stages in turn, its end behind them.
    rows = stage_rows(parts_of(bakery, orders, plan)) + door_rows(bakery, orders, plan)
    rows = sorted(rows, key=lambda row: (row[0], row[1]))
    first = "night to " + clock(bakery.night)
    return [first] + [row[2] for row in rows] + [last_text(fault(bakery, orders, plan))]
