"""Registers for variables by which of them meet; sets of variables are bits."""

from fewregisters.liveness import live_behind


def members(bits):
    """The variables of a set, the least first."""
    found = []
    while bits != 0:
        lowest = bits & -bits
        found.append(lowest.bit_length() - 1)
        bits ^= lowest
    return found


def meetings(program):
    """For each variable those that it meets."""
    met = [0] * program.variables
    for step, behind in zip(program.steps, live_behind(program)):
        if step.given is None:
            continue
        others = behind & ~(1 << step.given)
        if step.kind == "copy":
            others &= ~(1 << step.used[0])
        met[step.given] |= others
    return both_ways(met)


def both_ways(met):
    """The same meetings, told of both that meet."""
    whole = list(met)
    for variable, others in enumerate(met):
        for other in members(others):
            whole[other] |= 1 << variable
    return whole


def most_met(left, degrees, named):
    """Of the variables left that aren't helpers the one that meets most, the least of these."""
    best = None
    for variable in range(named):
        is_left = (left >> variable) & 1 == 1
        if is_left and (best is None or degrees[variable] > degrees[best]):
            best = variable
    return best


def taken_away(met, named, k):
    """The variables in the order in which they are taken away."""
    degrees = [len(members(others)) for others in met]
    left = (1 << len(met)) - 1
    # Kept along with the degrees, as to look for the least anew each time is slow.
    easy = 0
    for variable, degree in enumerate(degrees):
        if degree < k:
            easy |= 1 << variable
    order = []
    while left != 0:
        if easy != 0:
            variable = (easy & -easy).bit_length() - 1
        else:
            # Helpers alone meet fewer than k of one another, so a named variable is left.
            variable = most_met(left, degrees, named)
        order.append(variable)
        left &= ~(1 << variable)
        easy &= left
        for other in members(met[variable] & left):
            degrees[other] -= 1
            if degrees[other] == k - 1:
                easy |= 1 << other
    return order


def first_free(holders, others):
    """The least register that none of the others has, or None."""
    for place, holding in enumerate(holders):
        if (holding & others) == 0:
            return place
    return None


def given_homes(program, k):
    """For each variable its register, one of k, or None."""
    met = meetings(program)
    holders = [0] * k
    homes = [None] * program.variables
    for variable in reversed(taken_away(met, program.named, k)):
        home = first_free(holders, met[variable])
        homes[variable] = home
        if home is not None:
            holders[home] |= 1 << variable
    return homes
