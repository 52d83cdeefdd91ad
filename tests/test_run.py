"""Point 5: ra_run, and what the instructions do."""

import unittest

from tests.asking import ask, lines, live, read, run, run_answer, write

LEAST = -9223372036854775808
MOST = 9223372036854775807


def operated(sign, y, z, k=0):
    """What y OP z comes to."""
    found = run_answer(f"y = in\nz = in\nx = y {sign} z\nret x", k, given=[y, z])
    assert found[0] == 0 and found[3] == 4, found
    return found[2]


class RefusalTest(unittest.TestCase):
    def test_nothing_is_held(self):
        found = ask(run(0), run(1), run(3, 10000001), run(3, 5, 65537), run(17, 10000001, 65537, [1]))
        self.assertEqual(found, [[-3]] * 5)

    def test_k_at_and_beyond_its_ends(self):
        for k in [1, 2, 17, 18, 4294967295]:
            self.assertEqual(ask(read("ret x"), run(k))[1], [-1])
        for k in [0] + list(range(3, 17)):
            self.assertEqual(ask(read("ret x"), run(k))[1], [0, 0, 0, 1])

    def test_most_at_and_beyond_its_end(self):
        found = ask(read("ret x"), run(0, 5, 65536), run(0, 5, 65537), run(3, 5, 4294967295))
        self.assertEqual(found[1:], [[0, 0, 0, 1], [-1], [-1]])

    def test_steps_at_and_beyond_their_end(self):
        found = ask(read("ret x"), run(0, 10000000), run(0, 10000001), run(3, 4294967295))
        self.assertEqual(found[1:], [[0, 0, 0, 1], [-1], [-1]])

    def test_as_many_numbers_as_may_be_and_one_more(self):
        found = ask(read("x = in\nret x"), run(0, given=[7] * 65536), run(3, given=[7] * 65537), run(0))
        self.assertEqual(found[1:], [[0, 0, 7, 2], [-1], [0, 0, 0, 2]])

    def test_many_numbers_are_handed_over(self):
        given = list(range(15900))
        text = lines("l :", "x = in", "if x goto l", "out x", "x = in", "ret x")
        self.assertEqual(run_answer(text, 0, 100000, 5, given[1:] + [0]), [0, 1, 0, 31803, 0])

    def test_a_refusal_changes_nothing(self):
        found = ask(read("x = 5\nret x"), run(1), run(0, 10000001), run(0, 5, 65537), run(0, 1), run(0, 5, 0), live(1),
                    write(3), run(0))
        self.assertEqual(found[1:4], [[-1]] * 3)
        self.assertEqual(found[6:], [[0, 1], [14] + list(b"r0 = 5\nret r0\n"), [0, 0, 5, 2]])


class OutcomeTest(unittest.TestCase):
    def test_ended_by_ret(self):
        self.assertEqual(run_answer("x = 5\nout x\nret x\nout x"), [0, 1, 5, 3, 5])

    def test_ended_by_going_on_behind_the_last_step(self):
        self.assertEqual(run_answer("x = 5\nout x"), [0, 1, 0, 2, 5])
        self.assertEqual(run_answer("x = 5\nif x goto l\nret x\nl :"), [0, 0, 0, 2])
        self.assertEqual(run_answer("goto l\nl :\n"), [0, 0, 0, 1])
        self.assertEqual(run_answer("if x goto l\nl :\n"), [0, 0, 0, 1])

    def test_nothing_to_do(self):
        for steps in (0, 1, 10000000):
            self.assertEqual(run_answer("l :\n", 0, steps), [0, 0, 0, 0])
            self.assertEqual(run_answer("", 3, steps), [0, 0, 0, 0])

    def test_not_yet(self):
        self.assertEqual(run_answer("x = 5\nout x\nret x", 0, 2), [1, 1, 0, 2, 5])
        self.assertEqual(run_answer("x = 5\nout x\nret x", 0, 1), [1, 0, 0, 1])
        self.assertEqual(run_answer("l :\ngoto l", 0, 777), [1, 0, 0, 777])

    def test_steps_0(self):
        self.assertEqual(run_answer("x = 5\nret x", 0, 0), [1, 0, 0, 0])
        self.assertEqual(run_answer("out x", 3, 0, 0), [1, 0, 0, 0])

    def test_just_enough_steps(self):
        self.assertEqual(run_answer("x = 5\nret x", 0, 2), [0, 0, 5, 2])
        self.assertEqual(run_answer("x = 5\nout x", 0, 2), [0, 1, 0, 2, 5])

    def test_more_is_put_out_than_most(self):
        text = lines("x = 5", "out x", "x = 6", "out x", "out x", "ret x")
        self.assertEqual(run_answer(text, 0, 100, 3), [0, 3, 6, 6, 5, 6, 6])
        self.assertEqual(run_answer(text, 0, 100, 2), [-5, 2, 0, 4, 5, 6])
        self.assertEqual(run_answer(text, 0, 100, 1), [-5, 1, 0, 3, 5])
        self.assertEqual(run_answer(text, 0, 100, 0), [-5, 0, 0, 1])

    def test_most_0_without_anything_put_out(self):
        self.assertEqual(run_answer("x = 5\nret x", 0, 100, 0), [0, 0, 5, 2])

    def test_steps_run_out_ahead_of_what_is_too_much(self):
        text = lines("x = 5", "out x", "out x")
        self.assertEqual(run_answer(text, 0, 1, 0), [1, 0, 0, 1])
        self.assertEqual(run_answer(text, 0, 2, 0), [-5, 0, 0, 1])
        self.assertEqual(run_answer(text, 0, 2, 1), [1, 1, 0, 2, 5])
        self.assertEqual(run_answer(text, 0, 3, 1), [-5, 1, 0, 2, 5])

    def test_as_much_put_out_as_most_may_be(self):
        text = lines("l :", "out x", "goto l")
        found = run_answer(text, 0, 10000000, 65536)
        self.assertEqual(found, [-5, 65536, 0, 131072] + [0] * 65536)

    def test_what_is_fetched_and_put_counts_as_steps(self):
        text = lines("a = in", "b = in", "c = in", "d = in", "out a", "out b", "out c", "out d")
        self.assertEqual(run_answer(text, 0, given=[1, 2, 3, 4]), [0, 4, 0, 8, 1, 2, 3, 4])
        self.assertEqual(run_answer(text, 4, given=[1, 2, 3, 4]), [0, 4, 0, 8, 1, 2, 3, 4])
        self.assertEqual(run_answer(text, 3, given=[1, 2, 3, 4]), [0, 4, 0, 12, 1, 2, 3, 4])
        self.assertEqual(run_answer(text, 3, 7, given=[1, 2, 3, 4]), [1, 0, 0, 7])
        self.assertEqual(run_answer(text, 3, 8, given=[1, 2, 3, 4]), [1, 1, 0, 8, 1])
        self.assertEqual(run_answer(text, 3, 99, 1, given=[1, 2, 3, 4]), [-5, 1, 0, 9, 1])

    def test_each_run_begins_anew(self):
        found = ask(read("out x\nx = in\ny = y + x\nret y"), *[run(k, given=[8, 9]) for k in (0, 0, 3, 3, 0)])
        self.assertEqual(found[1:], [[0, 1, 8, 4, 0]] * 5)


class StepTest(unittest.TestCase):
    def test_variables_are_0_at_first(self):
        self.assertEqual(run_answer("out a\nb = b + a\nif b goto l\nret b\nl :\nx = 1\nret x"), [0, 1, 0, 4, 0])

    def test_slots_are_0_at_first(self):
        names = [f"v{number}" for number in range(8)]
        rows = [f"out {name}" for name in names] + [f"{name} = in" for name in names]
        text = lines("one = 1", "l :", *rows, "turns = turns + one", "two = turns == one", "if two goto l")
        wanted = [0] * 8 + list(range(1, 9))
        for k in (0, 3, 4, 5):
            self.assertEqual(run_answer(text, k, given=list(range(1, 9)))[4:], wanted)

    def test_in(self):
        text = lines("a = in", "out a", "b = in", "out b", "a = in", "out a", "a = in", "ret a")
        self.assertEqual(run_answer(text, given=[5, LEAST]), [0, 3, 0, 8, 5, LEAST, 0])
        self.assertEqual(run_answer(text, given=[5, LEAST, MOST, -1, 7]), [0, 3, -1, 8, 5, LEAST, MOST])
        self.assertEqual(run_answer(text), [0, 3, 0, 8, 0, 0, 0])

    def test_in_without_numbers_gives_0_anew(self):
        self.assertEqual(run_answer("a = 5\na = in\nret a"), [0, 0, 0, 3])

    def test_if(self):
        text = lines("x = in", "if x goto l", "y = 1", "ret y", "l :", "y = 2", "ret y")
        for number, wanted in [(0, 1), (1, 2), (-1, 2), (2, 2), (LEAST, 2), (MOST, 2)]:
            self.assertEqual(run_answer(text, given=[number]), [0, 0, wanted, 4])

    def test_goto_forth_and_back(self):
        text = lines("goto c", "a :", "x = 1", "out x", "goto b", "c :", "x = 2", "out x", "goto a", "b :", "ret x")
        self.assertEqual(run_answer(text), [0, 2, 1, 8, 2, 1])

    def test_several_labels_at_one_step(self):
        text = lines("goto b", "x = 1", "a :", "b :", "", "c :", "x = 2", "ret x")
        self.assertEqual(run_answer(text), [0, 0, 2, 3])

    def test_copy_and_number(self):
        self.assertEqual(run_answer("a = -7\nb = a\na = 3\nout a\nret b"), [0, 1, -7, 5, 3])
        self.assertEqual(run_answer(f"a = {LEAST}\nout a\na = {MOST}\nret a"), [0, 1, MOST, 4, LEAST])

    def test_a_loop(self):
        text = lines("n = in", "one = 1", "sum = 0", "l :", "sum = sum + n", "n = n - one", "if n goto l", "ret sum")
        self.assertEqual(run_answer(text, given=[100]), [0, 0, 5050, 304])

    def test_many_steps(self):
        text = lines("one = 1", "l :", "n = n + one", "goto l")
        self.assertEqual(run_answer(text, 3, 300001), [1, 0, 0, 300001])


class OperatorTest(unittest.TestCase):
    def assert_operated(self, sign, *rows):
        for y, z, wanted in rows:
            for k in (0, 3):
                self.assertEqual(operated(sign, y, z, k), wanted, f"{y} {sign} {z}")

    def test_plus(self):
        self.assert_operated("+", (2, 3, 5), (-2, 1, -1), (MOST, 1, LEAST), (MOST, MOST, -2), (LEAST, -1, MOST),
                             (LEAST, LEAST, 0), (MOST, 0, MOST), (LEAST, MOST, -1))

    def test_minus(self):
        self.assert_operated("-", (2, 3, -1), (LEAST, 1, MOST), (MOST, -1, LEAST), (0, LEAST, LEAST), (LEAST, LEAST, 0),
                             (MOST, LEAST, -1), (LEAST, MOST, 1), (-1, LEAST, MOST))

    def test_times(self):
        self.assert_operated("*", (6, -7, -42), (MOST, 2, -2), (LEAST, -1, LEAST), (LEAST, LEAST, 0), (MOST, MOST, 1),
                             (1 << 32, 1 << 31, LEAST), (1 << 32, 1 << 32, 0), (3037000500, 3037000500, -9223372036709301616))

    def test_divided(self):
        self.assert_operated("/", (7, 2, 3), (-7, 2, -3), (7, -2, -3), (-7, -2, 3), (1, 2, 0), (-1, 2, 0), (1, -2, 0),
                             (LEAST, -1, LEAST), (LEAST, 1, LEAST), (MOST, -1, -MOST), (-1, 1, -1), (-1, -1, 1), (0, -5, 0), (LEAST, 2, -4611686018427387904),
                             (LEAST, 3, -3074457345618258602), (MOST, LEAST, 0), (LEAST, LEAST, 1), (LEAST, MOST, -1),
                             (6, 3, 2), (-6, 3, -2))

    def test_remainder(self):
        self.assert_operated("%", (7, 2, 1), (-7, 2, -1), (7, -2, 1), (-7, -2, -1), (1, 2, 1), (-1, 2, -1), (6, 3, 0),
                             (-6, 3, 0), (LEAST, -1, 0), (LEAST, 10, -8), (MOST, 10, 7), (MOST, LEAST, MOST),
                             (LEAST, MOST, -1), (LEAST, LEAST, 0), (5, -7, 5), (-5, 7, -5))

    def test_by_0(self):
        self.assert_operated("/", (7, 0, 0), (-7, 0, 0), (0, 0, 0), (LEAST, 0, 0))
        self.assert_operated("%", (7, 0, 7), (-7, 0, -7), (0, 0, 0), (LEAST, 0, LEAST), (MOST, 0, MOST))

    def test_bit_by_bit(self):
        self.assert_operated("&", (12, 10, 8), (-1, 5, 5), (-4, -6, -8), (LEAST, MOST, 0), (LEAST, -1, LEAST))
        self.assert_operated("|", (12, 10, 14), (-1, 5, -1), (-4, 1, -3), (LEAST, MOST, -1), (LEAST, 1, LEAST + 1))
        self.assert_operated("^", (12, 10, 6), (-1, 5, -6), (-4, -6, 6), (LEAST, MOST, -1), (LEAST, LEAST, 0))

    def test_shifted_left(self):
        self.assert_operated("<<", (1, 0, 1), (1, 62, 1 << 62), (1, 63, LEAST), (3, 63, LEAST), (2, 63, 0), (1, 64, 1),
                             (1, 65, 2), (5, 128, 5), (1, -1, LEAST), (1, -64, 1), (1, -63, 2), (-1, 63, LEAST),
                             (-3, 1, -6), (MOST, 1, -2), (LEAST, 1, 0), (1, LEAST, 1), (1, MOST, LEAST), (1 << 62, 1, LEAST),
                             (1 << 61, 2, LEAST))

    def test_shifted_right(self):
        self.assert_operated(">>", (8, 1, 4), (7, 1, 3), (-7, 1, -4), (-1, 1, -1), (-1, 63, -1), (1, 1, 0), (LEAST, 63, -1),
                             (MOST, 62, 1), (MOST, 63, 0), (5, 64, 5), (-5, 64, -5), (5, 65, 2), (-5, 65, -3), (8, -64, 8),
                             (8, -63, 4), (LEAST, -1, -1), (8, LEAST, 8), (-8, MOST, -1))

    def test_less(self):
        self.assert_operated("<", (1, 2, 1), (2, 1, 0), (2, 2, 0), (-1, 0, 1), (LEAST, MOST, 1), (MOST, LEAST, 0),
                             (LEAST, LEAST, 0))

    def test_equal(self):
        self.assert_operated("==", (1, 2, 0), (2, 2, 1), (-2, 2, 0), (0, 0, 1), (LEAST, LEAST, 1), (LEAST, MOST, 0),
                             (MOST, MOST, 1))

    def test_what_is_answered_is_never_true_or_false(self):
        found = ask(read("x = y == y\nz = y < x\nout x\nret z"), run(0), run(3))
        for told in found:
            self.assertTrue(all(type(number) is int for number in told))


if __name__ == "__main__":
    unittest.main()
