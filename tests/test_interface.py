"""lifthouse.lifts.answers: the form of what is handed in and given back, and what it must not do."""

import ast
import contextlib
import io
import pathlib
import unittest

import lifthouse
from lifthouse.lifts import answers
from tests.helper import DOWN, UP, ask, build, car, come, flat, guess, person, run, sums, wait

# Each call but open, with numbers that would do in a house and with numbers that would not.
OTHERS = [(2, 0, 1), (2, 9, 9), (3, 1), (3, 2001), (4, 0), (4, 9),
          (5, 0, 1), (5, 9, 9), (6, 0), (6, 9), (7, 0, 1), (7, 9, 9), (8,)]
LINE = flat([build(cars=2), come(1, 2), wait(1, UP), come(1, 2), come(2, 2), guess(1, UP), guess(1, DOWN), run(9),
             car(0), car(2), person(0), person(1), person(2), sums(), wait(1, UP), wait(0, DOWN), run(2001), run(50),
             car(1), guess(2, DOWN), sums()])


class FormTest(unittest.TestCase):
    def test_a_number_alone(self):
        self.assertEqual(answers(list(build())), [1, 0])
        self.assertEqual(answers(flat([build(), run(5)])), [1, 0, 1, 0])

    def test_a_refusal(self):
        self.assertEqual(answers([1, 1, 1, 1, 1, 1, 1, 1]), [1, -1])
        self.assertEqual(answers([3, 1]), [1, -8])

    def test_come_with_and_without_an_event(self):
        self.assertEqual(answers(flat([build(), come(1, 2), come(1, 2)])), [1, 0, 8, 0, 5, 0, 1, 0, 1, 1, 0, 1, 1])

    def test_run_with_events(self):
        told = answers(flat([build(), come(1, 2), run(3)]))
        self.assertEqual(told[11:], [13, 2, 10, 2, 2, 0, 1, 1, 3, 4, 0, 1, 0, 0])

    def test_car(self):
        self.assertEqual(answers(flat([build(), car(0)])), [1, 0, 9, 0, 6, 0, 0, 0, 0, 0, 0, 0])

    def test_wait(self):
        told = answers(flat([build(), come(1, 2), come(1, 2), wait(1, UP), wait(1, DOWN), wait(2, UP)]))
        self.assertEqual(told[13:], [5, 2, 2, 0, 1, 0, 1, 0, 1, -1])

    def test_person(self):
        told = answers(flat([build(), come(1, 2), person(0), run(3), person(0), person(1)]))
        self.assertEqual(told[11:20], [8, 0, 5, 1, 2, 1, 0, 0, 0])
        self.assertEqual(told[34:], [8, 1, 5, 1, 2, 1, 4, 0, 0, 1, -1])

    def test_guess(self):
        told = answers(flat([build(cars=2), guess(1, UP), come(1, 2), guess(1, UP), guess(2, UP), guess(2, DOWN)]))
        self.assertEqual(told[2:8], [5, 0, 2, 2, 2, 0])
        self.assertEqual(told[17:], [1, -3, 1, -1, 5, 1, 2, 7, 3, 0])

    def test_sums(self):
        told = answers(flat([build(), sums(), come(1, 2), run(1), sums()]))
        self.assertEqual(told[2:10], [7, 0, 4, 0, 0, 0, 0, 0])
        self.assertEqual(told[-8:], [7, 1, 4, 0, 1, 1, 0, 0])

    def test_all_are_whole_numbers_in_a_list(self):
        told = answers(LINE)
        self.assertIs(type(told), list)
        self.assertEqual({type(number) for number in told}, {int})

    def test_four_hundred_calls(self):
        self.assertEqual(len(ask(build(), *[run(1)] * 399)), 400)
        for call in OTHERS:
            self.assertEqual(len(ask(build(), *[call] * 399)), 400)

    def test_any_call_may_come_first(self):
        for call in OTHERS:
            self.assertEqual(ask(call, build(), sums()), [(-8, []), (0, []), (0, [0, 0, 0, 0])])

    def test_many_numbers_are_answered(self):
        told = ask(build(floors=2), *[come(0, 1)] * 200, *[wait(0, UP)] * 199)
        self.assertEqual(told[201:], [(200, list(range(200)))] * 199)


class NoHouseTest(unittest.TestCase):
    def test_every_call_but_open_is_refused(self):
        for call in OTHERS:
            with self.subTest(call=call):
                self.assertEqual(answers(list(call)), [1, -8])

    def test_all_behind_one_another_with_an_open_behind_them(self):
        pairs = ask(*OTHERS, build(), come(1, 2))
        self.assertEqual(pairs, [(-8, [])] * len(OTHERS) + [(0, []), (0, [0, 1, 0, 1, 1])])

    def test_a_refused_open_is_no_house(self):
        for call in OTHERS:
            self.assertEqual(ask(build(room=0), call), [(-1, []), (-8, [])])


class Untouchable(list):
    """A list that fails at each change, even one that is taken back."""

    def refuse(self, *args, **kwargs):
        raise AssertionError("what is handed in was changed")

    __setitem__ = __delitem__ = __iadd__ = __imul__ = refuse
    append = extend = insert = pop = remove = clear = sort = reverse = refuse


class NothingKeptTest(unittest.TestCase):
    def test_the_list_handed_in_is_not_changed_for_a_while_either(self):
        self.assertEqual(answers(Untouchable(LINE)), answers(LINE))

    def test_the_list_handed_in_is_not_changed(self):
        handed = list(LINE)
        answers(handed)
        self.assertEqual(handed, LINE)

    def test_the_same_list_answers_the_same_a_second_time(self):
        first = answers(LINE)
        self.assertEqual(answers(LINE), first)

    def test_what_is_given_back_is_the_callers(self):
        first = answers(LINE)
        kept = list(first)
        first.clear()
        self.assertEqual(answers(LINE), kept)

    def test_no_house_is_left_from_another_list(self):
        for call in OTHERS:
            answers(LINE)
            self.assertEqual(answers(list(call)), [1, -8])

    def test_no_persons_and_no_time_are_left_from_another_list(self):
        answers(LINE)
        self.assertEqual(ask(build(), sums(), wait(1, UP), person(0)), [(0, []), (0, [0, 0, 0, 0]), (0, []), (-1, [])])

    def test_nothing_is_printed(self):
        out = io.StringIO()
        with contextlib.redirect_stdout(out), contextlib.redirect_stderr(out):
            answers(LINE)
        self.assertEqual(out.getvalue(), "")

    def test_nothing_but_the_package_is_imported(self):
        for path in pathlib.Path(lifthouse.__file__).parent.glob("*.py"):
            for node in ast.walk(ast.parse(path.read_text(encoding="utf-8"))):
                self.assertNotIsInstance(node, ast.Import, path.name)
                if isinstance(node, ast.ImportFrom):
                    self.assertEqual((node.level, node.module.split(".")[0]), (0, "lifthouse"), path.name)


if __name__ == "__main__":
    unittest.main()
