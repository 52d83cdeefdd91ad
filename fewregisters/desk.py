"""The calls, one list of whole numbers, and their answers."""

from fewregisters.fitting import as_read, fitted
from fewregisters.liveness import live_before
from fewregisters.reading import WrongLine, read_program
from fewregisters.running import run
from fewregisters.writing import written

NO_SUCH_THING = -1
NOTHING_HELD = -3
TOO_LONG = -5

BEGIN = 0
READ = 1
LIVE = 2
WRITE = 3
# By a call's number: how many whole numbers it has, and whether a row is behind them.
WHOLE_NUMBERS = (0, 0, 1, 2, 3)
HAS_ROW = (False, True, False, False, True)

FEWEST_REGISTERS = 3
MOST_REGISTERS = 16
MOST_TEXT = 65536
MOST_WRITTEN = 262144
MOST_GIVEN = 65536
MOST_PUT_OUT = 65536
MOST_STEPS = 10000000


class Held:
    """A program that has been read, and what has been found out about it by now."""

    def __init__(self, program):
        self.program = program
        self.live = live_before(program)
        self.fits = {}


class Desk:
    """Holds the one program that the calls are about, or None."""

    def __init__(self):
        self.held = None


def answers(calls):
    """The answers to calls on a new desk, each behind how many numbers it has."""
    desk = Desk()
    told = []
    at = 0
    while at < len(calls):
        call = calls[at]
        at += 1
        numbers = calls[at:at + WHOLE_NUMBERS[call]]
        at += len(numbers)
        row = []
        if HAS_ROW[call]:
            row = calls[at + 1:at + 1 + calls[at]]
            at += 1 + len(row)
        reply = answer(desk, call, numbers, row)
        told.append(len(reply))
        told.extend(reply)
    return told


def answer(desk, call, numbers, row):
    if call == BEGIN:
        return begin(desk)
    if call == READ:
        return read(desk, row)
    if call == LIVE:
        return live(desk, numbers[0])
    if call == WRITE:
        return write(desk, numbers[0], numbers[1])
    return run_held(desk, numbers[0], numbers[1], numbers[2], row)


def begin(desk):
    desk.held = None
    return [0]


def read(desk, text):
    if len(text) > MOST_TEXT:
        return [NO_SUCH_THING]
    try:
        program = read_program(text)
    except WrongLine as wrong:
        return [wrong.number]
    desk.held = Held(program)
    return [0]


def live(desk, at):
    if desk.held is None:
        return [NOTHING_HELD]
    if at >= len(desk.held.program.steps):
        return [NO_SUCH_THING]
    return [0, desk.held.live[at]]


def write(desk, k, most):
    if desk.held is None:
        return [NOTHING_HELD]
    if not is_register_count(k) or most > MOST_WRITTEN:
        return [NO_SUCH_THING]
    text = written(fit_of(desk.held, k))
    if len(text) > most:
        return [TOO_LONG]
    return [len(text)] + text


def run_held(desk, k, steps, most, given):
    if desk.held is None:
        return [NOTHING_HELD]
    if k != 0 and not is_register_count(k):
        return [NO_SUCH_THING]
    if len(given) > MOST_GIVEN or most > MOST_PUT_OUT or steps > MOST_STEPS:
        return [NO_SUCH_THING]
    return run(fit_of(desk.held, k), given, steps, most)


def is_register_count(k):
    return FEWEST_REGISTERS <= k <= MOST_REGISTERS


def fit_of(held, k):
    """The program as it was read where k is 0, else with k registers."""
    # Many calls may ask for the same k, and to find registers is slow.
    if k not in held.fits:
        held.fits[k] = as_read(held.program) if k == 0 else fitted(held.program, k)
    return held.fits[k]
