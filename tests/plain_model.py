"""A slow model of the document, written by its words alone, to hold the program against.

A program is a list of lines, a line a list of words; ("v", n) is the variable n, ("s", n)
the slot n. It is for texts without faults.
"""

HALF = 1 << 63


def model_lines(text):
    """The lines of a text, with variables numbered by where they first stand."""
    numbers = {}
    found = []
    for row in text.split("\n"):
        words = row.split()
        if words:
            found.append(with_variables(words, numbers))
    return found


def with_variables(words, numbers):
    if words[1] == ":" or words[0] == "goto":
        return words
    places = {"out": [1], "ret": [1], "if": [1]}.get(words[0], [0, 2, 4])
    found = list(words)
    for place in places:
        if place < len(words) and words[place][0].isalpha() and words[place] != "in":
            found[place] = ("v", numbers.setdefault(words[place], len(numbers)))
    return found


def is_label(line):
    return line[1] == ":"


def given_in(line):
    """The variable that a line gives something, as a list of one or none."""
    return [line[0]] if line[1] == "=" and line[0][0] == "v" else []


def used_in(line):
    """The variables that a line uses, each once, in their order."""
    found = []
    for word in line[1:]:
        if isinstance(word, tuple) and word[0] == "v" and word not in found:
            found.append(word)
    return found


def following(lines, at):
    """The places of the lines that may be next behind a line."""
    line = lines[at]
    if line[0] == "ret":
        return []
    if line[0] == "goto":
        return [lines.index([line[1], ":"])]
    if line[0] == "if":
        return [at + 1, lines.index([line[3], ":"])]
    return [at + 1]


def all_ways(lines):
    return [following(lines, at) for at in range(len(lines))]


def live_places(lines, ways):
    """For each variable the places of the lines before which it is live."""
    ahead = [[at for at in range(len(lines)) if place in ways[at]] for place in range(len(lines))]
    return {word: places_that_reach_use(lines, ahead, word) for word in variables_of(lines)}


def places_that_reach_use(lines, ahead, variable):
    """Where a way begins that comes to a use ahead of anything given anew: gone back from the uses."""
    found = set()
    pending = [at for at, line in enumerate(lines) if variable in used_in(line)]
    while pending:
        place = pending.pop()
        if place not in found:
            found.add(place)
            pending.extend(at for at in ahead[place] if variable not in given_in(lines[at]))
    return found


def variables_of(lines):
    return sorted({word for line in lines for word in given_in(line) + used_in(line)})


def live_bits(lines):
    """The bits that ra_live answers for each instruction."""
    places = live_places(lines, all_ways(lines))
    return [sum(1 << word[1] for word in places if at in places[word])
            for at in range(len(lines)) if not is_label(lines[at])]


def pairs_that_meet(lines):
    found = set()
    ways = all_ways(lines)
    places = live_places(lines, ways)
    for at, line in enumerate(lines):
        for given in given_in(line):
            for other in places:
                copied = len(line) == 3 and line[2] == other
                behind = any(place in places[other] for place in ways[at])
                if other != given and behind and not copied:
                    found.add((given, other))
                    found.add((other, given))
    return found


def colours(lines, k, named):
    """The register of each variable that gets one."""
    pairs = pairs_that_meet(lines)
    left = variables_of(lines)
    taken = []
    while left:
        degree = {one: sum((one, other) in pairs for other in left) for one in left}
        easy = [one for one in left if degree[one] < k]
        if easy:
            chosen = easy[0]
        else:
            chosen = max((one for one in left if one[1] < named), key=lambda one: (degree[one], -one[1]))
        left.remove(chosen)
        taken.append(chosen)
    found = {}
    for one in taken[::-1]:
        used = {found[other] for other in found if (one, other) in pairs}
        free = [place for place in range(k) if place not in used]
        if free:
            found[one] = free[0]
    return found


def with_kept(lines, slots, helper):
    """The lines with some variables kept in slots; helpers are numbered from helper on."""
    found = []
    for line in lines:
        instead = {}
        for variable in used_in(line):
            if variable in slots:
                instead[variable] = ("v", helper)
                helper += 1
                found.append([instead[variable], "=", slots[variable]])
        rest = [instead.get(word, word) for word in line[1:]]
        if line[0] in slots:
            found.append([("v", helper)] + rest)
            found.append([slots[line[0]], "=", ("v", helper)])
            helper += 1
        else:
            found.append([line[0]] + rest)
    return found, helper


def model_fit(text, k):
    """The lines with registers, ("r", n), and how often it was done."""
    lines = model_lines(text)
    named = helper = len(variables_of(lines))
    slots = 0
    rounds = 0
    while True:
        rounds += 1
        found = colours(lines, k, named)
        kept = [one for one in variables_of(lines) if one not in found]
        if not kept:
            return [[("r", found[word]) if word in found else word for word in line] for line in lines], rounds
        lines, helper = with_kept(lines, {one: ("s", slots + at) for at, one in enumerate(kept)}, helper)
        slots += len(kept)


def model_text(lines):
    return "".join(" ".join(word if isinstance(word, str) else "%s%d" % word for word in line) + "\n"
                   for line in lines)


def signed(number):
    return (number + HALF) % (2 * HALF) - HALF


def operate(sign, y, z):
    if sign in "/%" and z == 0:
        return 0 if sign == "/" else y
    if sign in "/%":
        whole = y // z if y % z == 0 or (y < 0) == (z < 0) else y // z + 1
        return signed(whole) if sign == "/" else y - whole * z
    table = {"+": y + z, "-": y - z, "*": y * z, "&": y & z, "|": y | z, "^": y ^ z,
             "<<": y << (z % 64), ">>": y >> (z % 64), "<": int(y < z), "==": int(y == z)}
    return signed(table[sign])


def model_run(lines, steps, most, given):
    """What ra_run answers for these lines."""
    cells = {}
    waiting = list(given)
    out = []
    done = 0
    at = 0
    while True:
        while at < len(lines) and is_label(lines[at]):
            at += 1
        if at == len(lines):
            return [0, len(out), 0, done] + out
        if done == steps:
            return [1, len(out), 0, done] + out
        line = lines[at]
        ways = following(lines, at)
        if line[0] == "ret":
            return [0, len(out), cells.get(line[1], 0), done + 1] + out
        if line[0] == "out" and len(out) == most:
            return [-5, len(out), 0, done] + out
        if line[0] == "out":
            out.append(cells.get(line[1], 0))
        elif line[1] == "=":
            cells[line[0]] = model_value(line[2:], cells, waiting)
        at = ways[0]
        if line[0] == "if" and cells.get(line[1], 0) != 0:
            at = ways[1]
        done += 1


def model_value(words, cells, waiting):
    if len(words) == 3:
        return operate(words[1], cells.get(words[0], 0), cells.get(words[2], 0))
    if words[0] == "in":
        return waiting.pop(0) if waiting else 0
    if isinstance(words[0], tuple):
        return cells.get(words[0], 0)
    return int(words[0])
