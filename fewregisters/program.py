"""What a program is made of."""


class Step:
    """One instruction.

    kind is one of operate, copy, number, in, out, goto, if, ret, fetch, put.
    given is the variable that gets something, or None; used are the variables
    that are used, in their order. extra is the operator of operate, the number
    of number, the label of goto and if, the slot of fetch and put, else None.
    """

    def __init__(self, kind, given, used, extra):
        self.kind = kind
        self.given = given
        self.used = used
        self.extra = extra


class Program:
    """Instructions, and by each label, in order, the number of the instruction behind it.

    named is how many variables were read, variables how many there are with helpers, which
    are numbered on; slots is how many slots there are.
    """

    def __init__(self, steps, labels, named, variables, slots):
        self.steps = steps
        self.labels = labels
        self.named = named
        self.variables = variables
        self.slots = slots
