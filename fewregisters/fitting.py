"""A program put into k registers, with slots for what finds none."""

from fewregisters.colouring import given_homes
from fewregisters.program import Program, Step


class Fitted:
    """A program, the register of each of its variables, and how many registers there are."""

    def __init__(self, program, homes, registers):
        self.program = program
        self.homes = homes
        self.registers = registers


class Rewriter:
    """The instructions of a program that are written anew, and the number of the next helper."""

    def __init__(self, slot_of, helper):
        self.slot_of = slot_of
        self.helper = helper
        self.steps = []


def as_read(program):
    """The program with a register for each variable."""
    return Fitted(program, list(range(program.variables)), program.variables)


def fitted(program, k):
    """The program with k registers, and what it needs to keep in slots."""
    while True:
        homes = given_homes(program, k)
        kept = [variable for variable in range(program.variables) if homes[variable] is None]
        if len(kept) == 0:
            return Fitted(program, homes, k)
        program = with_slots(program, kept)


def with_slots(program, kept):
    """The program with these variables, the least first, kept in slots."""
    slot_of = {}
    for variable in kept:
        slot_of[variable] = program.slots + len(slot_of)
    rewriter = Rewriter(slot_of, program.variables)
    moved = []
    for step in program.steps:
        moved.append(len(rewriter.steps))
        rewrite(rewriter, step)
    moved.append(len(rewriter.steps))
    labels = {}
    for label, place in program.labels.items():
        labels[label] = moved[place]
    slots = program.slots + len(slot_of)
    return Program(rewriter.steps, labels, program.named, rewriter.helper, slots)


def rewrite(rewriter, step):
    """Adds an instruction with what it has to fetch before it and to put behind it."""
    helper_of = {}
    for variable in step.used:
        if variable in rewriter.slot_of and variable not in helper_of:
            helper_of[variable] = new_helper(rewriter)
            slot = rewriter.slot_of[variable]
            rewriter.steps.append(Step("fetch", helper_of[variable], (), slot))
    used = tuple([helper_of.get(variable, variable) for variable in step.used])
    if step.given not in rewriter.slot_of:
        rewriter.steps.append(Step(step.kind, step.given, used, step.extra))
        return
    given = new_helper(rewriter)
    rewriter.steps.append(Step(step.kind, given, used, step.extra))
    rewriter.steps.append(Step("put", None, (given,), rewriter.slot_of[step.given]))


def new_helper(rewriter):
    helper = rewriter.helper
    rewriter.helper += 1
    return helper
