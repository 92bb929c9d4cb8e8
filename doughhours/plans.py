"""Plans: how each batch runs through the night, what is held meanwhile, and what stands at the door."""

from doughhours.errors import BadNumber, BadPlan
from doughhours.orders import cut


class Run:
    def __init__(self, begin, lengths, oven=0):
        if min([begin, oven] + list(lengths)) < 0:
            raise BadNumber("a run has no number below 0")
        self.begin = begin
        self.lengths = tuple(lengths)
        self.oven = oven

    def end(self):
        return self.begin + sum(self.lengths)

    def spans(self):
        row = []
        minute = self.begin
        for length in self.lengths:
            row.append((minute, minute + length))
            minute += length
        return row


class Part:
    # One stage of one run: what the minutes and the faults are counted from.
    def __init__(self, batch, stage, begin, until, loaves, oven):
        self.batch = batch
        self.stage = stage
        self.begin = begin
        self.until = until
        self.loaves = loaves
        self.oven = oven


def check_run(bakery, bread, run):
    if len(run.lengths) != len(bread.stages):
        raise BadPlan("a run has another number of lengths than its bread has stages")
    if bread.bakes() and not 1 <= run.oven <= len(bakery.ovens):
        raise BadPlan("a run of a bread that bakes has no oven of the bakery")
    if not bread.bakes() and run.oven != 0:
        raise BadPlan("a run of a bread that doesn't bake has an oven")


def fitted(bakery, orders, plan):
    # The batches whose runs the plan holds, so that no caller can forget to ask whether it fits.
    batches = cut(bakery, orders)
    if len(plan) != len(batches):
        raise BadPlan("the plan has another number of runs than there are batches")
    for batch, run in zip(batches, plan):
        check_run(bakery, bread_in(bakery, orders, batch), run)
    return batches


def bread_in(bakery, orders, batch):
    return bakery.bread_of(orders[batch.order - 1].bread)


def parts_of(bakery, orders, plan):
    row = []
    for number, batch in enumerate(fitted(bakery, orders, plan), start=1):
        run = plan[number - 1]
        for stage, span in zip(bread_in(bakery, orders, batch).stages, run.spans()):
            oven = run.oven if stage.want == "oven" else 0
            row.append(Part(number, stage, span[0], span[1], batch.loaves, oven))
    return row


def lasting(parts, minute):
    return [part for part in parts if part.begin <= minute < part.until]


def count_of(parts, want):
    return len([part for part in parts if part.stage.want == want])


def loaves_in(parts, oven):
    return sum([part.loaves for part in parts if part.oven == oven])


def held(bakery, orders, plan, minute):
    now = lasting(parts_of(bakery, orders, plan), minute)
    loaves = [loaves_in(now, number) for number in range(1, len(bakery.ovens) + 1)]
    return (count_of(now, "hands"), count_of(now, "bench"), loaves)


def stand(bakery, orders, plan, minute):
    loaves = [0] * len(orders)
    for batch, run in zip(fitted(bakery, orders, plan), plan):
        if run.end() <= minute:
            loaves[batch.order - 1] += batch.loaves
    return loaves
