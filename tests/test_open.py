"""The call open: its edges, its refusal, and what a new house is."""

import unittest

from tests.helper import HIGHEST, ask, build, car, come, last, run

EDGES = {
    "floors": (2, 32),
    "cars": (1, 6),
    "speed": (1, 60),
    "opening": (1, 60),
    "standing": (1, 60),
    "closing": (1, 60),
    "room": (1, 40),
}


class OpenTest(unittest.TestCase):
    def test_each_edge_is_taken(self):
        for name, edges in EDGES.items():
            for number in edges:
                with self.subTest(name=name, number=number):
                    self.assertEqual(last(build(**{name: number})), (0, []))

    def test_beside_each_edge_is_refused(self):
        for name, (least, most) in EDGES.items():
            for number in (least - 1, most + 1, 0, HIGHEST):
                with self.subTest(name=name, number=number):
                    self.assertEqual(last(build(**{name: number})), (-1, []))

    def test_one_within_each_edge_is_taken(self):
        for name, (least, most) in EDGES.items():
            for number in (least + 1, most - 1):
                with self.subTest(name=name, number=number):
                    self.assertEqual(last(build(**{name: number})), (0, []))

    def test_all_least_and_all_most(self):
        self.assertEqual(last((1, 2, 1, 1, 1, 1, 1, 1)), (0, []))
        self.assertEqual(last((1, 32, 6, 60, 60, 60, 60, 40)), (0, []))

    def test_there_are_as_many_floors_as_told(self):
        for floors in (2, 32):
            answers = ask(build(floors=floors), come(floors - 1, 0), come(floors, 0), come(0, floors))
            self.assertEqual([answer[0] for answer in answers], [0, 0, -1, -1])

    def test_there_are_as_many_cars_as_told(self):
        for cars in (1, 6):
            answers = ask(build(cars=cars), car(cars - 1), car(cars))
            self.assertEqual(answers[1:], [(0, [0, 0, 0, 0, 0, 0]), (-1, [])])

    def test_a_refused_open_makes_no_house(self):
        self.assertEqual(ask(build(floors=1), run(1), car(0), come(0, 1)), [(-1, []), (-8, []), (-8, []), (-8, [])])

    def test_a_refused_open_leaves_the_house_as_it_was(self):
        for wrong in (build(floors=33), build(cars=0), build(room=41), build(closing=61)):
            plain = ask(build(cars=2), come(0, 2), run(3), car(0), run(20), car(1))
            between = ask(build(cars=2), come(0, 2), run(3), wrong, car(0), wrong, run(20), car(1))
            self.assertEqual([answer for answer in between if answer != (-1, [])], plain)

    def test_another_open_makes_a_new_house(self):
        later = ask(build(cars=3), come(2, 0), come(1, 2), run(4), build(), car(0), come(1, 2), run(6))[4:]
        self.assertEqual(later, ask(build(), car(0), come(1, 2), run(6)))

    def test_another_open_changes_the_numbers(self):
        answers = ask(build(floors=9, cars=2), build(floors=2, cars=1), come(2, 0), car(1))
        self.assertEqual(answers[2:], [(-1, []), (-1, [])])


class TicksTest(unittest.TestCase):
    """Speed, opening, standing, closing are the ticks that they are told to be."""

    def ride(self, **ticks):
        answer = last(build(**ticks), come(1, 2), run(2000))
        return [(answer[1][at], answer[1][at + 1]) for at in range(0, len(answer[1]), 5)]

    def test_each_number_delays_what_it_should(self):
        # Begin to open, enter, closed; begin to open, leave, closed.
        self.assertEqual(self.ride(), [(2, 2), (3, 4), (5, 5), (7, 2), (8, 3), (10, 5)])
        self.assertEqual(self.ride(speed=60), [(61, 2), (62, 4), (64, 5), (125, 2), (126, 3), (128, 5)])
        self.assertEqual(self.ride(opening=60), [(2, 2), (62, 4), (64, 5), (66, 2), (126, 3), (128, 5)])
        self.assertEqual(self.ride(standing=60), [(2, 2), (3, 4), (64, 5), (66, 2), (67, 3), (128, 5)])
        self.assertEqual(self.ride(closing=60), [(2, 2), (3, 4), (64, 5), (66, 2), (67, 3), (128, 5)])
        self.assertEqual(
            self.ride(speed=2, opening=3, standing=4, closing=5),
            [(3, 2), (6, 4), (15, 5), (18, 2), (21, 3), (30, 5)],
        )

    def test_standing_and_closing_are_told_apart(self):
        stood = last(build(standing=9, closing=2), come(0, 1), run(4), car(0))
        self.assertEqual(stood[1][2:4], [3, 7])
        closing = last(build(standing=2, closing=9), come(0, 1), run(4), car(0))
        self.assertEqual(closing[1][2:4], [4, 9])


if __name__ == "__main__":
    unittest.main()
