"""The interface: one list of calls, one list of answers, and nothing kept."""

import contextlib
import io
import subprocess
import sys
import unittest
from pathlib import Path

from fewregisters.desk import answers
from tests.asking import BEGIN, ask, ask_all, lines, live, read, run, write
from tests.made_programs import tame_program

ROOT = Path(__file__).resolve().parent.parent


class WatchedList(list):
    """A list that tells of every try to change it, also of one that is undone."""

    def refuse(self, *rest, **named):
        raise AssertionError("what is handed in is changed")

    append = extend = insert = pop = remove = clear = sort = reverse = refuse
    __setitem__ = __delitem__ = __iadd__ = __imul__ = refuse


def many_calls():
    text = tame_program(4, 9, 12, 3)
    calls = [BEGIN, live(0), read(text), live(3), write(3), write(3, 5), write(1), run(0, given=[1, 2, -3]), BEGIN,
             run(0), read("wrong"), read("x = in\nret x"), run(3, given=[-9223372036854775808]), run(2), live(9)]
    return [number for call in calls for number in call]


class ListTest(unittest.TestCase):
    def test_ra_begin_alone(self):
        self.assertEqual(answers([0]), [1, 0])
        self.assertEqual(answers([0, 0, 0]), [1, 0, 1, 0, 1, 0])

    def test_several_calls_number_by_number(self):
        text = list(b"a = in\nb = a + a\nout b\nret a")
        calls = [0, 1, len(text)] + text + [2, 1, 3, 3, 100, 4, 0, 10, 5, 2, 21, -4]
        written = list(b"r1 = in\nr0 = r1 + r1\nout r0\nret r1\n")
        wanted = [1, 0, 1, 0, 2, 0, 1, 1 + len(written), len(written)] + written + [5, 0, 1, 21, 4, 42]
        self.assertEqual(answers(calls), wanted)

    def test_refusals_stand_alone(self):
        text = list(b"out x")
        calls = [0, 2, 0, 3, 3, 5, 4, 0, 5, 5, 0, 1, 5] + text + [2, 7, 3, 2, 5, 3, 3, 5, 4, 1, 5, 5, 1, 9]
        self.assertEqual(answers(calls), [1, 0, 1, -3, 1, -3, 1, -3, 1, 0, 1, -1, 1, -1, 1, -5, 1, -1])

    def test_minus_5_of_ra_run_is_no_refusal(self):
        text = list(b"out x")
        self.assertEqual(answers([0, 1, 5] + text + [4, 0, 9, 0, 0]), [1, 0, 1, 0, 4, -5, 0, 0, 0])

    def test_a_wrong_line_is_answered_by_its_number(self):
        self.assertEqual(answers([0, 1, 2, 10, 120]), [1, 0, 1, 2])

    def test_rows_without_numbers(self):
        self.assertEqual(answers([0, 1, 0, 4, 0, 0, 0, 0, 2, 0]), [1, 0, 1, 0, 4, 0, 0, 0, 0, 1, -1])

    def test_400_calls(self):
        found = ask_all([BEGIN, read("x = in\nret x")] + [run(3, given=[at]) for at in range(398)])
        self.assertEqual(found[2:], [[0, 0, at, 2] for at in range(398)])

    def test_a_list_of_16000_numbers(self):
        text = "x = in\nret x\n"
        calls = BEGIN + read(text + "\n" * (15900 - len(text))) + run(0, given=[-7] * 92)
        self.assertEqual(len(calls), 16000)
        self.assertEqual(answers(calls), [1, 0, 1, 0, 4, 0, 0, -7, 2])

    def test_as_many_labels_as_a_text_may_have(self):
        names = [a + b + c for a in "abcdefghijkl" for b in "mnopqrstuv" for c in "0123456789klmnopqrst"]
        text = lines(*[f"{name} :" for name in names], f"goto {names[-1]}")
        found = ask(read(text), run(3, 3), write(3))
        self.assertEqual(found[:2], [[0], [1, 0, 0, 3]])
        self.assertEqual(bytes(found[2][1:]).decode(), text)


class NothingKeptTest(unittest.TestCase):
    def test_the_list_is_as_it_was(self):
        calls = many_calls()
        before = list(calls)
        answers(calls)
        self.assertEqual(calls, before)

    def test_the_list_is_not_changed_for_a_while_either(self):
        calls = many_calls()
        self.assertEqual(answers(WatchedList(calls)), answers(calls))

    def test_each_time_as_if_for_the_first_time(self):
        first = answers(many_calls())
        answers(BEGIN + read("ret y"))
        self.assertEqual(answers(many_calls()), first)
        self.assertEqual(answers(BEGIN + live(0)), [1, 0, 1, -3])

    def test_what_is_given_back_is_new_each_time(self):
        first = answers(many_calls())
        copied = list(first)
        second = answers(many_calls())
        second.clear()
        self.assertEqual(first, copied)
        self.assertEqual(answers(many_calls()), copied)

    def test_whole_numbers_in_a_list(self):
        found = answers(many_calls())
        self.assertIs(type(found), list)
        self.assertTrue(all(type(number) is int for number in found))

    def test_nothing_is_printed(self):
        shown = io.StringIO()
        with contextlib.redirect_stdout(shown), contextlib.redirect_stderr(shown):
            answers(many_calls())
        self.assertEqual(shown.getvalue(), "")

    def test_nothing_of_others_is_imported(self):
        told = ("import sys; before = set(sys.modules); import fewregisters.desk; "
                "print(sorted(name for name in set(sys.modules) - before if name.split('.')[0] != 'fewregisters'))")
        found = subprocess.run([sys.executable, "-c", told], cwd=ROOT, capture_output=True, text=True, check=True)
        self.assertEqual(found.stdout, "[]\n")

    def test_few_calls_within_one_another(self):
        text = list(tame_program(8, 50, 60, 5).encode())
        told = ("import sys; from fewregisters.desk import answers; sys.setrecursionlimit(60); "
                f"text = {text}; print(answers([0, 1, len(text)] + text + [3, 3, 262144, 4, 3, 90000, 900, 0])[:4])")
        found = subprocess.run([sys.executable, "-c", told], cwd=ROOT, capture_output=True, text=True, check=True)
        self.assertEqual(found.stdout, "[1, 0, 1, 0]\n")


if __name__ == "__main__":
    unittest.main()
