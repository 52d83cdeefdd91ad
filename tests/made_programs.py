"""Programs made by a fixed rule, the same ones each time."""

OPERATORS = "+ - * / % & | ^ << >> < ==".split()
NUMBERS = [0, 1, -1, 2, 3, 7, 63, 64, -64, 1000003, -9223372036854775808, 9223372036854775807]


class Dice:
    """A row of numbers that looks thrown, from a number on."""

    def __init__(self, seed):
        self.state = seed * 2654435761 % (1 << 64) + 1

    def throw(self, sides):
        self.state = (self.state * 6364136223846793005 + 1442695040888963407) % (1 << 64)
        return (self.state >> 33) % sides

    def pick(self, row):
        return row[self.throw(len(row))]


def plain_line(dice, names):
    """A line that only gives something or puts something out."""
    x = dice.pick(names)
    y = dice.pick(names)
    z = dice.pick(names)
    sort = dice.throw(10)
    if sort < 5:
        return f"{x} = {y} {dice.pick(OPERATORS)} {z}"
    if sort == 5:
        return f"{x} = {y}"
    if sort == 6:
        return f"{x} = {dice.pick(NUMBERS)}"
    if sort == 7:
        return f"{x} = in"
    return f"out {x}"


def wild_program(seed, variables, size):
    """A program with goes from anywhere to anywhere."""
    dice = Dice(seed)
    names = [f"v{number}" for number in range(variables)]
    labels = [f"l{number}" for number in range(1 + dice.throw(5))]
    rows = []
    for _ in range(size):
        sort = dice.throw(12)
        if sort == 0:
            rows.append(f"goto {dice.pick(labels)}")
        elif sort < 3:
            rows.append(f"if {dice.pick(names)} goto {dice.pick(labels)}")
        elif sort == 3 and dice.throw(4) == 0:
            rows.append(f"ret {dice.pick(names)}")
        else:
            rows.append(plain_line(dice, names))
    for label in labels:
        rows.insert(dice.throw(len(rows) + 1), f"{label} :")
    return "".join(row + "\n" for row in rows)


def tame_program(seed, variables, size, turns):
    """A program of one loop of so many turns; all its variables are put out at the end."""
    dice = Dice(seed)
    names = [f"v{number}" for number in range(variables)]
    rows = [f"{name} = in" for name in names]
    rows += [f"turns = {turns}", "one = 1", "again :"]
    for number in range(size):
        if dice.throw(8) == 0:
            rows += [f"if {dice.pick(names)} goto s{number}", plain_line(dice, names), f"s{number} :"]
        rows.append(plain_line(dice, names))
    rows += ["turns = turns - one", "if turns goto again"]
    rows += [f"out {name}" for name in names]
    rows.append(f"ret {dice.pick(names)}")
    return "".join(row + "\n" for row in rows)
