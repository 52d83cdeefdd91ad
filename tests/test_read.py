"""Point 2: ra_read, and what a program is."""

import unittest

from tests.asking import ask, lines, live, read, read_answer, run, write, written_text

OPERATORS = "+ - * / % & | ^ << >> < ==".split()
NO_NAMES = ["in", "out", "goto", "if", "ret"]
WRONG_NAMES = NO_NAMES + ["ninesigns", "abcdefgh9", "1", "1a", "9", "A", "aB", "a_b", "a-b", "a.b", "x:",
                          ":", "=", "+", "-", "a\tb", "a\r", "\x00", "\xe4", "?", "@", "a?", "a@b", "`", "{"]
LABELS = "\n" + lines(*[f"{name} :" for name in "mnvwxyz"])


def many_steps(count):
    return lines(*["out x"] * count)


def many_variables(count):
    return lines(*[f"out v{number}" for number in range(count)])


class FormTest(unittest.TestCase):
    def assert_so(self, text):
        self.assertEqual(read_answer(text), [0], repr(text))

    def assert_not_so(self, text, number=1):
        self.assertEqual(read_answer(text), [number], repr(text))
        # Behind it stand labels, so that it isn't for one that isn't there.
        self.assertEqual(read_answer(text + LABELS), [number], repr(text))

    def test_every_form_of_a_line(self):
        for row in ["l :", "x = y", "x = 5", "x = -5", "x = in", "out x", "ret x", "l :\ngoto l",
                    "l :\nif x goto l"] + [f"x = y {sign} z" for sign in OPERATORS]:
            self.assert_so(row)
            self.assert_so(row + "\n")

    def test_blanks_in_front_behind_and_between(self):
        for row in ["l :", "x = y", "x = 5", "x = in", "out x", "ret x", "l :\n goto l  ",
                    "l :\n  if x goto l "] + [f"x = y {sign} z" for sign in OPERATORS]:
            self.assert_so("   " + row + "  ")
            self.assert_so(row.replace(" ", "    "))
            self.assert_so("  " + row.replace(" ", "  ") + " \n")

    def test_words_that_no_blank_parts(self):
        for row in ["l:", "x=y", "x= y", "x =y", "x=5", "x = y+z", "x = y + z;", "x = y +z", "outx", "retx", "x = y<<z",
                    "x = y < < z", "x = y = = z", "x = - 5"]:
            self.assert_not_so(row)
        self.assert_not_so("k :\ngotol", 2)

    def test_other_bytes_are_no_blanks_and_no_newlines(self):
        for byte in [0, 9, 11, 12, 13, 28, 29, 30, 31, 127, 133, 160, 255]:
            sign = chr(byte)
            self.assert_not_so(f"out{sign}x")
            self.assert_not_so(f"out x{sign}")
            self.assert_not_so(sign)
            self.assert_not_so(f"out x{sign}out x")
            self.assert_not_so(f"out x\n{sign}\n", 2)

    def test_lines_without_words_say_nothing_but_are_counted(self):
        self.assert_so("\n")
        self.assert_so("\n\n   \n")
        self.assert_so("   ")
        self.assert_so("\n  \nout x\n\n")
        self.assert_not_so("\n   \n\nwrong\n", 4)

    def test_the_last_line_with_and_without_a_newline(self):
        self.assertEqual(written_text("x = 5\nret x", 3), written_text("x = 5\nret x\n", 3))
        self.assert_not_so("out x\nwrong", 2)
        self.assert_not_so("out x\nwrong\n", 2)
        self.assert_so("out x\n   ")

    def test_as_many_bytes_as_may_be_and_one_more(self):
        text = "x = 5\nret x"
        self.assertEqual(ask(read(text.ljust(65536)), run(0)), [[0], [0, 0, 5, 2]])
        self.assertEqual(ask(read(text.ljust(65537)), run(0)), [[-1], [-3]])
        self.assertEqual(ask(read("ret y"), read("wrong".ljust(65537)), run(0)), [[0], [-1], [0, 0, 0, 1]])

    def test_a_text_without_bytes(self):
        found = ask(read(""), live(0), write(3), run(0), run(3))
        self.assertEqual(found, [[0], [-1], [0], [0, 0, 0, 0], [0, 0, 0, 0]])

    def test_lines_with_words_too_many_or_too_few(self):
        for row in ["x", "x =", "= y", "x = y z", "x = y +", "x = + z", "x = y + z +", "x = y + z + w", "x = in in",
                    "x = 5 5", "out", "out x y", "ret", "ret x y", "goto", "goto l m", "if", "if x", "if x goto",
                    "if x goto y z", "if goto y", "if x y", ":", "l : :", "l m :", ": l", "l", "ret ret x", "l : out x",
                    "x = y + z w v", "x y = z", "x : y + z", "goto x y z", "if if goto x", "x x goto y", "if x y z"]:
            self.assert_not_so(row)

    def test_words_in_wrong_places(self):
        for row in ["x = y + 5", "x = 5 + y", "x = in + y", "x = y + in", "x = 5 + 5", "out 5", "ret 5", "ret in", "5 = x",
                    "x == y", "if x ret y", "goto 5", "if 5 goto x", "if x goto 5", "in x", "= = =", "x = =", "Out x", "RET x", "x = IN",
                    "x = +", "out =", "x + y", "fi x goto y", "x = :"]:
            self.assert_not_so(row)

    def test_operators_that_are_none(self):
        for sign in ["<=", ">=", ">", "!=", "&&", "||", "**", "//", "<<<", "=", "!", "~", "and", "%%", "@", "?", "+-", "in"]:
            self.assert_not_so(f"x = y {sign} z")

    def test_names(self):
        for name in ["a", "z", "m5", "a0", "z9", "abcdefgh", "a1234567", "inn", "outs", "gotos", "i", "iff", "r", "rets",
                     "r0", "s0"]:
            for row in ["out {0}", "ret {0}", "{0} = 1", "{0} = x", "x = {0}", "{0} = in", "{0} = x + x", "x = {0} + x",
                        "x = x + {0}", "{0} :", "{0} :\ngoto {0}", "{0} :\nif {0} goto {0}"]:
                self.assert_so(row.format(name))

    def test_words_that_are_no_names(self):
        for name in WRONG_NAMES:
            for row in ["out {0}", "ret {0}", "{0} = 1", "{0} = in", "{0} = x + x", "x = {0} + x", "x = x + {0}",
                        "{0} = x", "{0} :", "goto {0}", "if x goto {0}", "if {0} goto l"]:
                self.assert_not_so(row.format(name))
            if name not in ("in", "1", "9"):
                self.assert_not_so(f"x = {name}")

    def test_every_byte_as_a_name(self):
        for byte in range(256):
            good = 97 <= byte <= 122
            self.assertEqual(read_answer(list(b"out ") + [byte]), [0 if good else 1], byte)

    def test_every_byte_as_the_second_sign_of_a_name(self):
        for byte in range(256):
            good = 97 <= byte <= 122 or 48 <= byte <= 57 or byte == 32 or byte == 10
            self.assertEqual(read_answer(list(b"out a") + [byte]), [0 if good else 1], byte)

    def test_every_byte_as_an_operator(self):
        for byte in range(256):
            wanted = 0 if byte in b"+-*/%&|^<" else 1
            if byte == 10:
                wanted = 2
            self.assertEqual(read_answer(list(b"x = y ") + [byte] + list(b" z")), [wanted], byte)

    def test_numbers(self):
        for word in ["0", "1", "9", "10", "-1", "-10", "100", "9223372036854775807", "-9223372036854775808",
                     "9223372036854775806", "-9223372036854775807", "1000000000000000000"]:
            self.assert_so(f"x = {word}")
            self.assertEqual(ask(read(f"x = {word}\nret x"), run(0))[1], [0, 0, int(word), 2])

    def test_words_that_are_no_numbers(self):
        for word in ["9223372036854775808", "-9223372036854775809", "9223372036854775810", "9999999999999999999",
                     "10000000000000000000", "18446744073709551615", "-18446744073709551615", "00", "01", "-01", "-0",
                     "-00", "000", "+1", "+0", "--1", "-", "1-", "1_0", "1.0", "0x1", "1e5", "1a", "-a",
                     "09223372036854775807", "-09223372036854775808", "9" * 5000, "0" * 5000, "-" + "9" * 5000]:
            self.assert_not_so(f"x = {word}")


class TooManyTest(unittest.TestCase):
    def test_256_steps_and_no_more(self):
        self.assertEqual(read_answer(many_steps(256)), [0])
        self.assertEqual(read_answer(many_steps(257)), [257])
        self.assertEqual(read_answer(many_steps(300)), [257])

    def test_labels_and_empty_lines_are_no_steps(self):
        self.assertEqual(read_answer(many_steps(256) + "\n\nl :\nm :\n"), [0])
        self.assertEqual(read_answer("l :\n\n" + many_steps(256) + "m :\nout x\n"), [260])

    def test_every_sort_of_step_counts(self):
        for row in ["x = x", "x = 1", "x = in", "x = x + x", "out x", "ret x", "goto l", "if x goto l"]:
            self.assertEqual(read_answer("l :\n" + many_steps(255) + row), [0])
            self.assertEqual(read_answer("l :\n" + many_steps(256) + row), [258])

    def test_64_variables_and_no_more(self):
        self.assertEqual(read_answer(many_variables(64)), [0])
        self.assertEqual(read_answer(many_variables(65)), [65])
        self.assertEqual(read_answer(many_variables(64) + "v0 = v63 + v5\n"), [0])

    def test_the_65th_variable_wherever_it_stands(self):
        for row in ["w = v0 + v0", "v0 = w + v0", "v0 = v0 + w", "w = v0", "v0 = w", "w = 1", "w = in", "out w", "ret w",
                    "if w goto l"]:
            self.assertEqual(read_answer("l :\n" + many_variables(63) + row), [0], row)
            self.assertEqual(read_answer("l :\n" + many_variables(64) + row), [66], row)

    def test_labels_are_no_variables(self):
        labels = lines(*[f"l{number} :" for number in range(300)])
        self.assertEqual(read_answer(many_variables(64) + labels + "goto l299"), [0])

    def test_a_line_of_three_new_variables(self):
        self.assertEqual(read_answer(many_variables(61) + "a = b + c"), [0])
        self.assertEqual(read_answer(many_variables(62) + "a = b + c"), [63])


class LabelTest(unittest.TestCase):
    def test_a_label_said_again(self):
        self.assertEqual(read_answer("l :\nout x\nl :\n"), [3])
        self.assertEqual(read_answer("l :\nl :"), [2])
        self.assertEqual(read_answer("l :\nm :\nl :\nm :"), [3])

    def test_labels_and_variables_may_have_one_name(self):
        found = ask(read("l = 1\nl :\nif l goto m\nm :\nret l"), run(0), live(0), live(1), write(3))
        self.assertEqual(found[:4], [[0], [0, 0, 1, 3], [0, 0], [0, 1]])

    def test_a_label_that_is_not_there(self):
        self.assertEqual(read_answer("goto l"), [1])
        self.assertEqual(read_answer("out x\n\nif x goto l\n"), [3])
        self.assertEqual(read_answer("l :\ngoto l\nif x goto m\ngoto n"), [3])
        self.assertEqual(read_answer("l = 1\ngoto l\n"), [2])

    def test_a_label_may_stand_behind_where_it_is_gone_to(self):
        self.assertEqual(read_answer("goto l\nl :"), [0])
        self.assertEqual(read_answer("if x goto l\nout x\nl :\n"), [0])


class WhichLineTest(unittest.TestCase):
    def test_the_first_wrong_line(self):
        self.assertEqual(read_answer("out x\nwrong\nout x\nwrong"), [2])
        self.assertEqual(read_answer("l :\nl :\nwrong"), [2])
        self.assertEqual(read_answer("l :\nwrong\nl :"), [2])

    def test_a_label_that_is_not_there_goes_behind_all_else(self):
        self.assertEqual(read_answer("goto l\nout x\nwrong"), [3])
        self.assertEqual(read_answer("goto l\nm :\nm :"), [3])
        self.assertEqual(read_answer("goto l\n" + many_steps(256)), [257])
        self.assertEqual(read_answer("goto l\n" + many_variables(65)), [66])

    def test_one_too_many_goes_by_its_line_too(self):
        self.assertEqual(read_answer(many_steps(257) + "wrong"), [257])
        self.assertEqual(read_answer("wrong\n" + many_steps(257)), [1])
        self.assertEqual(read_answer(many_variables(65) + many_steps(256)), [65])
        self.assertEqual(read_answer(many_variables(64) + lines(*["out v0"] * 193) + "out w"), [257])
        self.assertEqual(read_answer("l :\n" + many_steps(257) + "l :"), [258])

    def test_a_wrong_line_brings_no_variable(self):
        self.assertEqual(read_answer(many_variables(64) + "w = 5 5\n"), [65])


class HeldTest(unittest.TestCase):
    WRONG = ["wrong", "l :\nl :", many_steps(257), many_variables(65), "goto l"]

    def test_nothing_changes_where_another_number_than_0_is_answered(self):
        for text in self.WRONG:
            held = [read("x = 7\nret x"), live(1), write(3), run(0), run(3)]
            found = ask(*held, read(text), *held[1:])
            self.assertNotEqual(found[5], [0])
            self.assertEqual(found[6:], found[1:5], text)
            self.assertEqual(found[8], [0, 0, 7, 2])

    def test_nothing_is_held_where_nothing_was(self):
        for text in self.WRONG:
            self.assertEqual(ask(read(text), live(0), write(3), run(0))[1:], [[-3], [-3], [-3]])

    def test_what_is_read_later_is_held(self):
        found = ask(read("x = 7\nret x"), run(3), write(3), read("y = 8\nx = 9\nret y"), run(0), run(3), write(3))
        self.assertEqual(found[4:6], [[0, 0, 8, 3], [0, 0, 8, 3]])
        self.assertEqual(bytes(found[6][1:]), b"r1 = 8\nr0 = 9\nret r1\n")

    def test_variables_are_numbered_by_where_they_first_stand(self):
        found = ask(read("a = b + c\nd = a\nout d\nif e goto l\nl :\nret c"), live(0), live(1), live(2), live(3), live(4))
        self.assertEqual(found[1:], [[0, 0b10110], [0, 0b10101], [0, 0b11100], [0, 0b10100], [0, 0b100]])


if __name__ == "__main__":
    unittest.main()
