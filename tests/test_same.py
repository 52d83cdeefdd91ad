"""Over all: whatever the program, and however few the registers, it does the same."""

import unittest

from tests.asking import ask, read, run, run_answer, write, written_text
from tests.made_programs import NUMBERS, Dice, tame_program, wild_program
from tests.plain_model import model_fit, model_lines, model_run

EVERY_K = range(3, 17)
# Two fetched, one put, and the step itself.
STEPS_FOR_ONE = 4


def numbers_for(seed):
    dice = Dice(seed + 5000)
    return [dice.pick(NUMBERS) for _ in range(dice.throw(60))]


class SameTest(unittest.TestCase):
    def assert_same(self, text, steps, most, given):
        calls = [run(k, steps * STEPS_FOR_ONE, most, given) for k in EVERY_K]
        for k, found in zip(EVERY_K, ask(read(text), *calls)[1:]):
            plain = ask(read(text), run(0, steps, most, given))[1]
            if plain[0] == 1:
                # By then at least as much is done, so at least as much is put out.
                self.assertEqual(found[4:][:plain[1]], plain[4:], (text, k))
            else:
                self.assertEqual(found[:3] + found[4:], plain[:3] + plain[4:], (text, k))
                self.assertGreaterEqual(found[3], plain[3])

    def test_programs_that_end(self):
        for seed in range(45):
            self.assert_same(tame_program(seed, 1 + seed, 20, 4), 3000, 2000, numbers_for(seed))

    def test_programs_that_put_out_too_much(self):
        for seed in range(12):
            self.assert_same(tame_program(seed, 10 + seed, 20, 4), 3000, 7, numbers_for(seed))

    def test_programs_that_go_anywhere(self):
        for seed in range(60):
            self.assert_same(wild_program(seed, 1 + seed % 30, 30 + seed), 400, 200, numbers_for(seed))

    def test_large_programs(self):
        for seed in range(3):
            self.assert_same(wild_program(seed, 60, 250), 500, 300, numbers_for(seed))
            self.assert_same(tame_program(seed, 60, 60, 3), 2000, 300, numbers_for(seed))


class AsWrittenTest(unittest.TestCase):
    def test_what_is_written_is_what_is_run(self):
        for seed in range(30):
            text = tame_program(seed, 2 + seed % 9, 12, 3)
            given = numbers_for(seed)
            for k in (3, 4, 5, 8):
                again = written_text(text, k)
                self.assertEqual(run_answer(again, 0, 4000, 50, given), run_answer(text, k, 4000, 50, given))

    def test_no_more_than_k_registers(self):
        for seed in range(12):
            text = tame_program(seed, 20 + seed, 20, 3)
            for k in EVERY_K:
                words = written_text(text, k).split()
                found = {int(word[1:]) for word in words if word[0] == "r" and word != "ret"}
                self.assertLess(max(found), k)

    def test_as_the_model_runs_it(self):
        for seed in range(40):
            text = wild_program(seed, 1 + seed % 12, 10 + seed)
            given = numbers_for(seed)
            for steps, most in [(0, 5), (7, 5), (50, 0), (50, 3), (300, 100)]:
                self.assertEqual(run_answer(text, 0, steps, most, given), model_run(model_lines(text), steps, most, given))
            fit = model_fit(text, 3)[0]
            for steps, most in [(9, 5), (60, 3), (300, 100)]:
                self.assertEqual(run_answer(text, 3, steps, most, given), model_run(fit, steps, most, given))

    def test_written_again_it_still_does_the_same(self):
        text = tame_program(3, 7, 12, 3)
        given = numbers_for(3)
        plain = run_answer(text, 0, 4000, 50, given)
        for k in (9, 5, 3):
            text = written_text(text, k)
            found = ask(read(text), run(0, 4000, 50, given), write(3))
            self.assertEqual(found[0], [0])
            self.assertEqual(found[1][:3] + found[1][4:], plain[:3] + plain[4:])


if __name__ == "__main__":
    unittest.main()
