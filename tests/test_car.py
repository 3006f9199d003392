"""The call car: what it tells and what it refuses."""

import unittest

from tests.helper import DOWN, HIGHEST, UP, ask, build, car, come, last, run


class CarTest(unittest.TestCase):
    def test_a_new_car(self):
        for cars in (1, 6):
            for number in range(cars):
                self.assertEqual(last(build(cars=cars), car(number)), (0, [0, 0, 0, 0, 0, 0]))

    def test_no_such_car(self):
        for cars in (1, 5, 6):
            for number in (cars, cars + 1, HIGHEST):
                self.assertEqual(last(build(cars=cars), car(number)), (-1, []))

    def test_where_it_is_is_told_in_ticks(self):
        self.assertEqual(last(build(speed=60), come(1, 2), run(59), car(0)), (0, [59, UP, 1, 0, 0, 1, 1, UP]))
        self.assertEqual(last(build(speed=60), come(1, 2), run(60), car(0)), (0, [60, UP, 1, 0, 0, 1, 1, UP]))

    def test_how_many_ticks_doors_do_so_yet(self):
        calls = [build(opening=3, standing=4, closing=5), come(0, 1)]
        told = [last(*calls, run(ticks), car(0))[1][2:4] for ticks in range(14)]
        self.assertEqual(told, [[0, 0], [2, 3], [2, 2], [2, 1], [3, 4], [3, 3], [3, 2], [3, 1],
                                [4, 5], [4, 4], [4, 3], [4, 2], [4, 1], [0, 0]])

    def test_the_direction_stays_when_doors_are_closed(self):
        self.assertEqual(last(build(), come(0, 2), run(4), car(0)), (1, [0, UP, 0, 0, 1, 0, 0, 2]))

    def test_who_is_inside_what_is_pressed_and_calls_in_order(self):
        calls = [build(floors=9, room=5), come(1, 7), come(0, 5), come(0, 3), come(0, 5), come(0, 8), run(2)]
        self.assertEqual(last(*calls, come(4, 2), come(2, 4), car(0)), (4, [
            0, UP, 3, 1, 3, 3,
            1, 2, 3, 4,
            5, 3, 8,
            1, UP, 4, DOWN, 2, UP,
        ]))

    def test_a_floor_that_is_pressed_already_keeps_its_place(self):
        calls = [build(floors=9, room=5), come(0, 7), come(0, 5), come(1, 7), come(1, 3), run(100)]
        at_one = last(*calls[:-1], run(7), car(0))
        self.assertEqual(at_one, (4, [1, UP, 3, 1, 3, 0, 0, 1, 2, 3, 7, 5, 3]))

    def test_asking_changes_nothing(self):
        plain = ask(build(cars=2), come(0, 2), run(3), come(2, 1), run(9))
        asked = ask(build(cars=2), come(0, 2), run(3), car(0), car(0), car(1), come(2, 1), car(1), run(9))
        self.assertEqual([asked[at] for at in (0, 1, 2, 6, 8)], plain)
        self.assertEqual(asked[3], asked[4])


if __name__ == "__main__":
    unittest.main()
