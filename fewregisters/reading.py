"""A program read from a text."""

from fewregisters.operators import LEAST, MOST, OPERATORS
from fewregisters.program import Program, Step
from fewregisters.signs import lines_of, words_of

LETTERS = "abcdefghijklmnopqrstuvwxyz"
DIGITS = "0123456789"
NO_NAMES = ("in", "out", "goto", "if", "ret")
LONGEST_NAME = 8
# No number of 64 bits has more digits than this.
LONGEST_NUMBER = 19
MOST_STEPS = 256
MOST_VARIABLES = 64


class WrongLine(Exception):
    """The line of this number, from 1 on, is wrong."""

    def __init__(self, number):
        self.number = number


class Reader:
    """What has been read of a program by now."""

    def __init__(self):
        self.steps = []
        self.labels = {}
        self.variables = {}


def read_program(text):
    """The program that a text of bytes tells; raises WrongLine where it tells none."""
    reader = Reader()
    gone_to = []
    for number, line in enumerate(lines_of(text), start=1):
        words = words_of(line)
        if len(words) == 0:
            continue
        step = parsed(words)
        if step is None or not taken_in(reader, step):
            raise WrongLine(number)
        if step.kind == "goto" or step.kind == "if":
            gone_to.append((number, step.extra))
    for number, label in gone_to:
        if label not in reader.labels:
            raise WrongLine(number)
    count = len(reader.variables)
    return Program(reader.steps, reader.labels, count, count, 0)


def taken_in(reader, step):
    """Adds what a line tells; False where it says a label again or is one too many."""
    if step.kind == "label":
        if step.extra in reader.labels:
            return False
        reader.labels[step.extra] = len(reader.steps)
        return True
    given = None
    if step.given is not None:
        given = numbered(reader, step.given)
    used = tuple([numbered(reader, name) for name in step.used])
    reader.steps.append(Step(step.kind, given, used, step.extra))
    return len(reader.steps) <= MOST_STEPS and len(reader.variables) <= MOST_VARIABLES


def numbered(reader, name):
    """The number of a variable, which is new where it stands first."""
    return reader.variables.setdefault(name, len(reader.variables))


def parsed(words):
    """What a line says: a step with names for variables, of the kind label too; or None."""
    size = len(words)
    if size == 2:
        return parsed_pair(words[0], words[1])
    if size == 4:
        return parsed_if(words)
    if size < 3 or words[1] != "=" or not is_name(words[0]):
        return None
    if size == 3:
        return parsed_value(words[0], words[2])
    if size == 5:
        return parsed_operation(words)
    return None


def parsed_pair(first, second):
    if second == ":" and is_name(first):
        return Step("label", None, (), first)
    if not is_name(second):
        return None
    if first == "goto":
        return Step("goto", None, (), second)
    if first == "out" or first == "ret":
        return Step(first, None, (second,), None)
    return None


def parsed_if(words):
    if words[0] == "if" and is_name(words[1]) and words[2] == "goto" and is_name(words[3]):
        return Step("if", None, (words[1],), words[3])
    return None


def parsed_value(given, word):
    if word == "in":
        return Step("in", given, (), None)
    if is_name(word):
        return Step("copy", given, (word,), None)
    if is_number(word):
        return Step("number", given, (), int(word))
    return None


def parsed_operation(words):
    if is_name(words[2]) and words[3] in OPERATORS and is_name(words[4]):
        return Step("operate", words[0], (words[2], words[4]), words[3])
    return None


def is_name(word):
    if len(word) > LONGEST_NAME or word[0] not in LETTERS or word in NO_NAMES:
        return False
    return all([sign in LETTERS or sign in DIGITS for sign in word])


def is_number(word):
    below = word.startswith("-")
    digits = word[1:] if below else word
    if len(digits) == 0 or len(digits) > LONGEST_NUMBER:
        return False
    if not all([sign in DIGITS for sign in digits]):
        return False
    if digits[0] == "0":
        return word == "0"
    return LEAST <= int(word) <= MOST
