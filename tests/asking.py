"""Calls written as the interface asks, and answers parted call by call."""

from fewregisters.desk import answers

BEGIN = [0]


def read(text):
    """A ra_read of a text, or of bytes."""
    row = list(text.encode("latin-1") if isinstance(text, str) else text)
    return [1, len(row)] + row


def live(at):
    return [2, at]


def write(k, most=262144):
    return [3, k, most]


def run(k, steps=10000, most=1000, given=()):
    return [4, k, steps, most, len(given)] + list(given)


def ask(*calls):
    """The answers to these calls, behind a ra_begin whose answer is left out."""
    return ask_all([BEGIN] + list(calls))[1:]


def ask_all(calls):
    """The answers to these calls, a list for each."""
    told = answers([number for call in calls for number in call])
    found = []
    at = 0
    while at < len(told):
        found.append(told[at + 1:at + 1 + told[at]])
        assert len(found[-1]) == told[at], "an answer is cut short"
        at += 1 + told[at]
    assert len(found) == len(calls), "not one answer for each call"
    return found


def read_answer(text):
    """What ra_read answers, on a desk that holds nothing."""
    return ask(read(text))[0]


def live_rows(text, count):
    """The answers of ra_live for the first instructions of a program."""
    found = ask(read(text), *[live(at) for at in range(count)])
    assert found[0] == [0], found[0]
    return found[1:]


def written_text(text, k):
    """What ra_write answers for a program, as a text."""
    found = ask(read(text), write(k))
    assert found[0] == [0], found[0]
    assert found[1][0] == len(found[1]) - 1, "the count isn't that of the bytes"
    return bytes(found[1][1:]).decode("ascii")


def run_answer(text, k=0, steps=10000, most=1000, given=()):
    """What ra_run answers for a program."""
    found = ask(read(text), run(k, steps, most, given))
    assert found[0] == [0], found[0]
    return found[1]


def lines(*rows):
    """A text of these lines, with a newline behind each."""
    return "".join(row + "\n" for row in rows)
