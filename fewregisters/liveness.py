"""Which variables are live; sets of variables are bits, the variable 0 is the lowest."""


def ways_on(program):
    """For each instruction the numbers of those that may be next; the end counts as one."""
    ways = []
    for place, step in enumerate(program.steps):
        if step.kind == "ret":
            ways.append([])
        elif step.kind == "goto":
            ways.append([program.labels[step.extra]])
        elif step.kind == "if":
            ways.append([place + 1, program.labels[step.extra]])
        else:
            ways.append([place + 1])
    return ways


def ways_back(ways):
    """For each instruction, and for the end, the numbers of those that may be just ahead."""
    back = [[] for place in range(len(ways) + 1)]
    for place, following in enumerate(ways):
        for other in following:
            back[other].append(place)
    return back


def joined(live, places):
    """What is live before at least one of these places."""
    bits = 0
    for place in places:
        bits |= live[place]
    return bits


def live_before(program):
    """The variables live before each instruction, and before the end."""
    ways = ways_on(program)
    back = ways_back(ways)
    live = [0] * (len(ways) + 1)
    pending = list(range(len(ways)))
    is_pending = [True] * len(ways)
    while len(pending) > 0:
        place = pending.pop()
        is_pending[place] = False
        bits = needed_before(program.steps[place], joined(live, ways[place]))
        if bits == live[place]:
            continue
        live[place] = bits
        for earlier in back[place]:
            if not is_pending[earlier]:
                is_pending[earlier] = True
                pending.append(earlier)
    return live


def needed_before(step, behind):
    """The variables live before an instruction behind which these are live."""
    bits = behind
    if step.given is not None:
        bits &= ~(1 << step.given)
    for variable in step.used:
        bits |= 1 << variable
    return bits


def live_behind(program):
    """The variables live behind each instruction."""
    live = live_before(program)
    return [joined(live, following) for following in ways_on(program)]
