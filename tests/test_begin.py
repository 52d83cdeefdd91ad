"""Point 1: ra_begin."""

import unittest

from tests.asking import BEGIN, ask_all, live, read, run, write


class BeginTest(unittest.TestCase):
    def test_answers_0(self):
        self.assertEqual(ask_all([BEGIN]), [[0]])

    def test_nothing_is_read_behind_it(self):
        found = ask_all([BEGIN, live(0), write(3), run(0)])
        self.assertEqual(found, [[0], [-3], [-3], [-3]])

    def test_what_was_held_is_gone_behind_it(self):
        found = ask_all([BEGIN, read("ret x"), live(0), BEGIN, live(0), write(3), run(0)])
        self.assertEqual(found, [[0], [0], [0, 1], [0], [-3], [-3], [-3]])

    def test_a_program_may_be_read_again_behind_it(self):
        found = ask_all([BEGIN, read("ret x"), BEGIN, BEGIN, read("x = 5\nret x\n"), run(0)])
        self.assertEqual(found[3:], [[0], [0], [0, 0, 5, 2]])


if __name__ == "__main__":
    unittest.main()
