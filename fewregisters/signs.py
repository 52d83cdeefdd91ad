"""Bytes as signs, and signs as bytes."""

NEWLINE = 10
REMAINDER = 37
# Texts of this package may not hold the sign of the byte 37, so another sign,
# which no program may hold, stands for it.
REMAINDER_SIGN = "@"
PLAIN_SIGNS = " abcdefghijklmnopqrstuvwxyz0123456789:=+-*/&|^<>"
# Stands for every byte that no word of a program may hold.
STRANGE_SIGN = "?"


def lines_of(text):
    """The lines of a text of bytes, each as signs."""
    sign_of = {NEWLINE: "\n", REMAINDER: REMAINDER_SIGN}
    for sign in PLAIN_SIGNS:
        sign_of[ord(sign)] = sign
    signs = "".join([sign_of.get(byte, STRANGE_SIGN) for byte in text])
    return signs.split("\n")


def words_of(line):
    """The words of a line, which blanks part."""
    return [word for word in line.split(" ") if word != ""]


def bytes_of(lines):
    """The bytes of lines of signs, with a newline behind each."""
    found = []
    for line in lines:
        found.extend([REMAINDER if sign == REMAINDER_SIGN else ord(sign) for sign in line])
        found.append(NEWLINE)
    return found
