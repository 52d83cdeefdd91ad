"""Point 3: ra_live."""

import unittest

from tests.asking import ask, lines, live, live_rows, read
from tests.made_programs import tame_program, wild_program
from tests.plain_model import is_label, live_bits, model_lines


class LiveTest(unittest.TestCase):
    def assert_live(self, text, *rows):
        self.assertEqual(live_rows(text, len(rows)), [[0, bits] for bits in rows])

    def test_nothing_is_held(self):
        self.assertEqual(ask(live(0), live(4294967295)), [[-3], [-3]])

    def test_no_such_step(self):
        found = ask(read("x = 1\n\nl :\nret x\nm :\n"), live(0), live(1), live(2), live(3), live(4294967295))
        self.assertEqual(found[1:], [[0, 0], [0, 1], [-1], [-1], [-1]])
        self.assertEqual(ask(read("l :\n"), live(0)), [[0], [-1]])

    def test_one_behind_another(self):
        self.assert_live(lines("a = in", "b = in", "c = a + b", "out a", "ret c"), 0, 0b1, 0b11, 0b101, 0b100)

    def test_used_and_given_in_one(self):
        self.assert_live(lines("a = a + b", "ret a"), 0b11, 0b1)
        self.assert_live(lines("a = a", "ret a"), 0b1, 0b1)
        self.assert_live(lines("a = a * a", "a = 1", "ret a"), 0b1, 0, 0b1)

    def test_given_anew_is_not_live_ahead(self):
        self.assert_live(lines("out a", "a = 1", "out a", "a = in", "out a", "a = b", "ret a"), 0b11, 0b10, 0b11, 0b10,
                         0b11, 0b10, 0b1)

    def test_never_given(self):
        self.assert_live(lines("out a", "out b", "ret a"), 0b11, 0b11, 0b1)

    def test_never_used(self):
        self.assert_live(lines("a = 1", "b = 2", "c = in"), 0, 0, 0)

    def test_both_ways_of_an_if(self):
        self.assert_live(lines("if a goto l", "ret b", "l :", "ret c"), 0b111, 0b10, 0b100)
        self.assert_live(lines("if a goto l", "b = 1", "l :", "ret b"), 0b11, 0, 0b10)

    def test_an_if_that_never_goes_counts_both_ways(self):
        self.assert_live(lines("a = 0", "if a goto l", "ret a", "l :", "ret b"), 0b10, 0b11, 0b1, 0b10)

    def test_a_loop(self):
        self.assert_live(lines("a = 10", "b = 1", "l :", "out c", "a = a - b", "if a goto l", "ret a"),
                         0b100, 0b101, 0b111, 0b111, 0b111, 0b1)

    def test_a_loop_in_a_loop(self):
        self.assert_live(lines("l :", "a = in", "m :", "b = in", "if b goto m", "if a goto l", "out c"),
                         0b100, 0b101, 0b111, 0b101, 0b100)

    def test_a_loop_without_an_end(self):
        self.assert_live(lines("out a", "l :", "goto l", "out b"), 0b1, 0, 0b10)
        self.assert_live(lines("l :", "out a", "goto l"), 0b1, 0b1)

    def test_behind_ret_there_is_nothing(self):
        self.assert_live(lines("ret a", "out b"), 0b1, 0b10)

    def test_goto_leads_to_its_label_alone(self):
        self.assert_live(lines("goto l", "out a", "l :", "out b"), 0b10, 0b11, 0b10)

    def test_a_label_behind_the_last_step(self):
        self.assert_live(lines("if a goto l", "out b", "goto l", "l :"), 0b11, 0b10, 0)

    def test_several_labels_at_one_step(self):
        self.assert_live(lines("if a goto l", "goto m", "l :", "m :", "out b"), 0b11, 0b10, 0b10)

    def test_64_variables(self):
        rows = [f"out v{number}" for number in range(64)]
        self.assert_live(lines(*rows), *[(1 << 64) - (1 << at) for at in range(64)])

    def test_goes_that_lead_back_many_times(self):
        rows = ["goto l84"]
        for number in range(85):
            rows += [f"l{number} :", f"out v{number % 60}", f"goto l{number - 1}" if number else "ret last"]
        text = lines(*rows)
        self.assertEqual(live_rows(text, 171), [[0, bits] for bits in live_bits(model_lines(text))])

    def test_made_programs(self):
        for seed in range(60):
            text = wild_program(seed, 1 + seed % 20, 5 + seed) if seed % 3 else tame_program(seed, 1 + seed % 40, 20, 2)
            rows = model_lines(text)
            count = sum(not is_label(row) for row in rows)
            self.assertEqual(live_rows(text, count), [[0, bits] for bits in live_bits(rows)], text)


if __name__ == "__main__":
    unittest.main()
