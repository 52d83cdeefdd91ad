"""Point 4: ra_write, and how registers are given."""

import unittest

from tests.asking import ask, lines, live, read, run, write, written_text
from tests.made_programs import tame_program, wild_program
from tests.plain_model import model_fit, model_text

FOUR_AT_ONCE = lines("a = in", "b = in", "c = in", "d = in", "out a", "out b", "out c", "out d")


class RefusalTest(unittest.TestCase):
    def test_nothing_is_held(self):
        self.assertEqual(ask(write(3), write(2), write(3, 262145), write(0, 0)), [[-3]] * 4)

    def test_k_at_and_beyond_both_ends(self):
        for k in [0, 1, 2, 17, 18, 255, 4294967295]:
            self.assertEqual(ask(read("ret x"), write(k), write(k, 0), write(k, 262145))[1:], [[-1]] * 3)
        for k in range(3, 17):
            self.assertEqual(written_text("ret x", k), "ret r0\n")

    def test_most_at_and_beyond_its_end(self):
        found = ask(read("ret x"), write(3, 262144), write(3, 262145), write(3, 4294967295))
        self.assertEqual(found[1:], [[7] + list(b"ret r0\n"), [-1], [-1]])

    def test_one_byte_too_few_and_just_enough(self):
        for text in ["ret x", FOUR_AT_ONCE, "l :", "x = y % z"]:
            for k in (3, 4, 16):
                size = len(written_text(text, k))
                found = ask(read(text), write(k, size - 1), write(k, size), write(k, 0), write(k, size + 1))
                self.assertEqual(found[1], [-5])
                self.assertEqual(found[2][0], size)
                self.assertEqual(found[3], [-5])
                self.assertEqual(found[4], found[2])

    def test_nothing_to_write(self):
        self.assertEqual(ask(read("\n  \n"), write(3, 0), write(3, 10))[1:], [[0], [0]])

    def test_a_refusal_changes_nothing(self):
        found = ask(read("x = 5\nret x"), write(2), write(3, 1), write(3, 262145), live(1), write(3), run(3))
        self.assertEqual(found[4:], [[0, 1], [14] + list(b"r0 = 5\nret r0\n"), [0, 0, 5, 2]])


class FormTest(unittest.TestCase):
    def test_every_form_of_a_line(self):
        operators = "+ - * / % & | ^ << >> < ==".split()
        rows = ["  first   :", "x  =  in"] + [f" x =   x {sign} x " for sign in operators]
        rows += ["x = 0", "x = -9223372036854775808", "x = 9223372036854775807", "x = x", "out x", "", "  ", "second :",
                 "third :", "goto third", "if   x goto  first", "ret x", "last :"]
        wanted = ["first :", "r0 = in"] + [f"r0 = r0 {sign} r0" for sign in operators]
        wanted += ["r0 = 0", "r0 = -9223372036854775808", "r0 = 9223372036854775807", "r0 = r0", "out r0", "second :",
                   "third :", "goto third", "if r0 goto first", "ret r0", "last :"]
        self.assertEqual(written_text("\n".join(rows), 3), lines(*wanted))

    def test_labels_alone(self):
        self.assertEqual(written_text("b :\na :\n", 3), "b :\na :\n")

    def test_labels_that_look_like_places(self):
        self.assertEqual(written_text("r0 :\ns0 :\nr1 = s0\nret r1", 3), "r0 :\ns0 :\nr0 = r0\nret r0\n")

    def test_registers_and_slots_of_two_digits(self):
        names = [f"v{number}" for number in range(30)]
        text = written_text(lines(*[f"{name} = in" for name in names], *[f"out {name}" for name in names]), 16)
        self.assertIn("r15 = in\n", text)
        self.assertIn("s10 = r", text)
        self.assertIn(" = s10\n", text)


class FitTest(unittest.TestCase):
    def assert_written(self, text, k, *rows):
        self.assertEqual(written_text(text, k), lines(*rows))

    def test_those_not_needed_at_once_share_one(self):
        self.assert_written(lines("a = 1", "b = 2", "c = a + b", "ret c"), 3,
                            "r1 = 1", "r0 = 2", "r0 = r1 + r0", "ret r0")

    def test_four_at_once_in_four(self):
        self.assert_written(FOUR_AT_ONCE, 4, "r3 = in", "r2 = in", "r1 = in", "r0 = in", "out r3", "out r2", "out r1",
                            "out r0")

    def test_never_given_ones_do_not_meet(self):
        self.assert_written("out a\nout b\nret a", 3, "out r0", "out r0", "ret r0")

    def test_one_given_but_never_used_meets_what_is_live(self):
        self.assert_written("a = 1\nb = 2\nret a", 3, "r1 = 1", "r0 = 2", "ret r1")

    def test_what_no_way_leads_to_counts_too(self):
        self.assert_written("ret a\nb = 1\nout a\nout b", 3, "ret r1", "r0 = 1", "out r1", "out r0")

    def test_copied_and_live_behind_it_do_not_meet(self):
        self.assert_written("a = in\nb = a\nout b\nout a", 3, "r0 = in", "r0 = r0", "out r0", "out r0")

    def test_copied_ones_meet_elsewhere(self):
        self.assert_written("a = in\nb = a\nb = b + b\nout b\nout a", 3,
                            "r1 = in", "r0 = r1", "r0 = r0 + r0", "out r0", "out r1")
        self.assert_written("a = in\nb = a\na = 5\nout b\nout a", 3,
                            "r1 = in", "r0 = r1", "r1 = 5", "out r0", "out r1")

    def test_copied_meets_the_others_that_are_live(self):
        self.assert_written("a = in\nc = in\nb = a\nout c\nout b\nout a", 3,
                            "r0 = in", "r1 = in", "r0 = r0", "out r1", "out r0", "out r0")

    def test_an_operator_is_no_copy(self):
        self.assert_written("a = in\nb = a | a\nout b\nout a", 3, "r1 = in", "r0 = r1 | r1", "out r0", "out r1")

    def test_the_least_is_taken_first(self):
        # a meets b, c; b meets a; c meets a: all go at once, so the last of them gets register 0.
        self.assert_written("a = 1\nb = 2\nout b\nc = 3\nout c\nret a", 3,
                            "r1 = 1", "r0 = 2", "out r0", "r0 = 3", "out r0", "ret r1")

    def test_one_taken_although_it_meets_many_may_get_one(self):
        # p, q, r, s meet in a ring, and each meets hub: none meets fewer than three.
        text = lines("hub = in", "p = in", "q = in", "out p", "r = in", "out q", "s = in", "out r", "p = in", "out s",
                     "q = in", "out p", "out q", "out hub")
        self.assert_written(text, 3, "r2 = in", "r1 = in", "r0 = in", "out r1", "r1 = in", "out r0", "r0 = in", "out r1",
                            "r1 = in", "out r0", "r0 = in", "out r1", "out r0", "out r2")


class SlotTest(unittest.TestCase):
    def assert_written(self, text, k, *rows):
        self.assertEqual(written_text(text, k), lines(*rows))

    def test_done_again_twice(self):
        self.assert_written(FOUR_AT_ONCE, 3, "r0 = in", "s0 = r0", "r0 = in", "s1 = r0", "r2 = in", "r1 = in", "r0 = s0",
                            "out r0", "r0 = s1", "out r0", "out r2", "out r1")

    def test_used_twice_and_given_in_one(self):
        text = lines("a = in", "b = in", "c = in", "d = in", "a = a * a", "out a", "out b", "out c", "out d")
        self.assert_written(text, 3, "r0 = in", "s0 = r0", "r0 = in", "s1 = r0", "r2 = in", "r1 = in", "r0 = s0",
                            "r0 = r0 * r0", "s0 = r0", "r0 = s0", "out r0", "r0 = s1", "out r0", "out r2", "out r1")

    def test_labels_stand_before_what_is_fetched_and_behind_what_is_put(self):
        text = lines("l :", "a = in", "m :", "b = in", "c = in", "d = in", "n :", "out a", "if b goto l", "out c", "out d",
                     "e :")
        self.assert_written(text, 3, "l :", "r0 = in", "s0 = r0", "m :", "r0 = in", "s1 = r0", "r2 = in", "r1 = in", "n :",
                            "r0 = s0", "out r0", "r0 = s1", "if r0 goto l", "out r2", "out r1", "e :")

    def test_fetched_in_the_order_of_use(self):
        # a, b, c are kept, in the slots 0, 1, 2; the helper of the first one used is live while the second is fetched.
        head = ["a = in", "b = in", "c = in", "d = in", "e = in"]
        tail = ["out a", "out b", "out d", "out e", "out c"]
        found = written_text(lines(*head, "c = b - a", *tail), 3).split("\n")
        at = [place for place, row in enumerate(found) if " - " in row][0]
        self.assertEqual([row[-2:] for row in found[at - 2:at]], ["s1", "s0"])
        found = written_text(lines(*head, "c = a - b", *tail), 3).split("\n")
        self.assertEqual([row[-2:] for row in found[at - 2:at]], ["s0", "s1"])

    def test_every_step_that_may_use_a_kept_one(self):
        text = lines("a = 7", "b = in", "c = in", "d = in", "a = b", "e = a", "e = a + e", "if a goto l", "out a", "l :",
                     "out b", "out c", "out d", "out e", "ret a")
        for k in range(3, 6):
            self.assertEqual(written_text(text, k), model_text(model_fit(text, k)[0]))

    def test_the_same_text_however_often_it_is_asked(self):
        calls = [write(3), run(3), write(4), write(3), run(0), write(16), write(4)]
        found = ask(read(FOUR_AT_ONCE), *calls)[1:]
        for call, told in zip(calls, found):
            self.assertEqual(ask(read(FOUR_AT_ONCE), call)[1], told)


class MadeProgramsTest(unittest.TestCase):
    def assert_as_told(self, text, k):
        fit, rounds = model_fit(text, k)
        self.assertEqual(written_text(text, k), model_text(fit), text)
        return rounds

    def test_small_programs_by_every_k(self):
        for seed in range(40):
            text = wild_program(seed, 2 + seed % 18, 10 + seed)
            for k in range(3, 17):
                self.assert_as_told(text, k)

    def test_loops_by_several_k(self):
        often = 0
        for seed in range(24):
            text = tame_program(seed, 3 + seed, 15, 3)
            for k in (3, 4, 6, 16):
                often += self.assert_as_told(text, k) > 2
        self.assertGreater(often, 20, "too few programs for which it is done again more than once")

    def test_large_programs(self):
        for seed in range(3):
            self.assert_as_told(wild_program(seed, 62, 250), 3 + seed * 5)
            self.assert_as_told(tame_program(seed, 58, 60, 3), 3 + seed * 6)


if __name__ == "__main__":
    unittest.main()
