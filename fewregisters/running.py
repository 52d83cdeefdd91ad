"""A program with registers run on numbers."""

from fewregisters.operators import OPERATORS

ENDED = 0
NOT_YET = 1
TOO_MUCH_PUT_OUT = -5


class Order:
    """An instruction as it is run: its registers and slots are places in one row of cells.

    extra is the operator's function, the number, or the number of the instruction to go to.
    """

    def __init__(self, kind, into, first, second, extra):
        self.kind = kind
        self.into = into
        self.first = first
        self.second = second
        self.extra = extra


def run(fit, numbers, steps, most):
    """The outcome of at most so many steps: 0, 1 or -5, three numbers, and what is put out."""
    cells = [0] * (fit.registers + fit.program.slots)
    return run_orders(orders_of(fit), cells, numbers, steps, most)


def orders_of(fit):
    """The orders of a program, with the end as the last one."""
    orders = [order_of(step, fit) for step in fit.program.steps]
    # With an order to stand for it, a run need not look for the end at each step.
    orders.append(Order("end", None, None, None, None))
    return orders


def order_of(step, fit):
    into = None
    if step.given is not None:
        into = fit.homes[step.given]
    used = [fit.homes[variable] for variable in step.used]
    if step.kind == "copy":
        return Order("move", into, used[0], None, None)
    if step.kind == "fetch":
        return Order("move", into, fit.registers + step.extra, None, None)
    if step.kind == "put":
        return Order("move", fit.registers + step.extra, used[0], None, None)
    if step.kind == "operate":
        return Order("operate", into, used[0], used[1], OPERATORS[step.extra])
    first = used[0] if len(used) > 0 else None
    extra = step.extra
    if step.kind == "goto" or step.kind == "if":
        extra = fit.program.labels[step.extra]
    return Order(step.kind, into, first, None, extra)


def run_orders(orders, cells, numbers, steps, most):
    put_out = []
    taken = 0
    place = 0
    for done in range(steps):
        order = orders[place]
        kind = order.kind
        place += 1
        if kind == "operate":
            cells[order.into] = order.extra(cells[order.first], cells[order.second])
        elif kind == "move":
            cells[order.into] = cells[order.first]
        elif kind == "if":
            if cells[order.first] != 0:
                place = order.extra
        elif kind == "goto":
            place = order.extra
        elif kind == "number":
            cells[order.into] = order.extra
        elif kind == "in":
            cells[order.into] = numbers[taken] if taken < len(numbers) else 0
            taken += 1
        elif kind == "out":
            if len(put_out) == most:
                return outcome(TOO_MUCH_PUT_OUT, put_out, 0, done)
            put_out.append(cells[order.first])
        elif kind == "ret":
            return outcome(ENDED, put_out, cells[order.first], done + 1)
        else:
            return outcome(ENDED, put_out, 0, done)
    how = ENDED if orders[place].kind == "end" else NOT_YET
    return outcome(how, put_out, 0, steps)


def outcome(how, put_out, ended_with, done):
    return [how, len(put_out), ended_with, done] + put_out
