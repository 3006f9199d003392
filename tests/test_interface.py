"""lifthouse.lifts.answers: the form of what is handed in and given back, and what it must not do."""

import ast
import contextlib
import io
import pathlib
import unittest

import lifthouse
from lifthouse.lifts import answers
from tests.helper import ask, build, car, come, flat, run

# Each call but open, with numbers that would do in a house and with numbers that would not.
OTHERS = [(2, 0, 1), (2, 9, 9), (3, 1), (3, 2001), (4, 0), (4, 9),
          (5, 0, 1), (5, 9, 9), (6, 0), (6, 9), (7, 0, 1), (7, 9, 9), (8,)]
LINE = flat([build(cars=2), come(1, 2), come(1, 2), come(2, 2), run(9), car(0), car(2), run(2001), run(50), car(1)])


class FormTest(unittest.TestCase):
    def test_a_number_alone(self):
        self.assertEqual(answers(list(build())), [1, 0])
        self.assertEqual(answers(flat([build(), run(5)])), [1, 0, 1, 0])

    def test_a_refusal(self):
        self.assertEqual(answers([1, 1, 1, 1, 1, 1, 1, 1]), [1, -1])
        self.assertEqual(answers([3, 1]), [1, -8])

    def test_come_with_and_without_an_event(self):
        self.assertEqual(answers(flat([build(), come(1, 2), come(1, 2)])), [1, 0, 8, 0, 5, 0, 1, 0, 1, 1, 0, 1, 1])

    def test_run_with_events(self):
        told = answers(flat([build(), come(1, 2), run(3)]))
        self.assertEqual(told[11:], [13, 2, 10, 2, 2, 0, 1, 1, 3, 4, 0, 1, 0, 0])

    def test_car(self):
        self.assertEqual(answers(flat([build(), car(0)])), [1, 0, 9, 0, 6, 0, 0, 0, 0, 0, 0, 0])

    def test_all_are_whole_numbers_in_a_list(self):
        told = answers(LINE)
        self.assertIs(type(told), list)
        self.assertEqual({type(number) for number in told}, {int})

    def test_four_hundred_calls(self):
        self.assertEqual(len(ask(build(), *[run(1)] * 399)), 400)


class NoHouseTest(unittest.TestCase):
    def test_every_call_but_open_is_refused(self):
        for call in OTHERS:
            with self.subTest(call=call):
                self.assertEqual(answers(list(call)), [1, -8])

    def test_all_behind_one_another_with_an_open_behind_them(self):
        pairs = ask(*OTHERS, build(), come(1, 2))
        self.assertEqual(pairs, [(-8, [])] * len(OTHERS) + [(0, []), (0, [0, 1, 0, 1, 1])])

    def test_a_refused_open_is_no_house(self):
        for call in OTHERS:
            self.assertEqual(ask(build(room=0), call), [(-1, []), (-8, [])])


class NothingKeptTest(unittest.TestCase):
    def test_the_list_handed_in_is_not_changed(self):
        handed = list(LINE)
        answers(handed)
        self.assertEqual(handed, LINE)

    def test_the_same_list_answers_the_same_a_second_time(self):
        first = answers(LINE)
        self.assertEqual(answers(LINE), first)

    def test_what_is_given_back_is_the_callers(self):
        first = answers(LINE)
        kept = list(first)
        first.clear()
        self.assertEqual(answers(LINE), kept)

    def test_no_house_is_left_from_another_list(self):
        answers(LINE)
        self.assertEqual(answers([4, 0]), [1, -8])

    def test_nothing_is_printed(self):
        out = io.StringIO()
        with contextlib.redirect_stdout(out), contextlib.redirect_stderr(out):
            answers(LINE)
        self.assertEqual(out.getvalue(), "")

    def test_nothing_but_the_package_is_imported(self):
        for path in pathlib.Path(lifthouse.__file__).parent.glob("*.py"):
            for node in ast.walk(ast.parse(path.read_text(encoding="utf-8"))):
                self.assertNotIsInstance(node, ast.Import, path.name)
                if isinstance(node, ast.ImportFrom):
                    self.assertEqual((node.level, node.module.split(".")[0]), (0, "lifthouse"), path.name)


if __name__ == "__main__":
    unittest.main()
