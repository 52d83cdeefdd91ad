"""A program with registers written as a text."""

from fewregisters.signs import bytes_of


def written(fit):
    """The bytes of a program with registers."""
    labels_at = {}
    for label, place in fit.program.labels.items():
        labels_at.setdefault(place, []).append(label)
    lines = []
    for place, step in enumerate(fit.program.steps):
        lines.extend(label_lines(labels_at, place))
        lines.append(step_line(step, fit.homes))
    lines.extend(label_lines(labels_at, len(fit.program.steps)))
    return bytes_of(lines)


def label_lines(labels_at, place):
    return [f"{label} :" for label in labels_at.get(place, [])]


def step_line(step, homes):
    """The line of an instruction."""
    used = [place_name("r", homes[variable]) for variable in step.used]
    extra = step.extra
    if step.kind == "goto":
        return f"goto {extra}"
    if step.kind == "put":
        return " ".join([place_name("s", extra), "=", used[0]])
    if step.given is not None:
        given = place_name("r", homes[step.given])
        return " ".join([given, "="] + value_words(step, used))
    if step.kind == "if":
        return " ".join(["if", used[0], "goto", extra])
    return " ".join([step.kind, used[0]])


def value_words(step, used):
    """The words behind the sign = of an instruction that gives a variable something."""
    if step.kind == "operate":
        return [used[0], step.extra, used[1]]
    if step.kind == "copy":
        return [used[0]]
    if step.kind == "number":
        return [str(step.extra)]
    if step.kind == "fetch":
        return [place_name("s", step.extra)]
    return ["in"]


def place_name(letter, number):
    return f"{letter}{number}"
