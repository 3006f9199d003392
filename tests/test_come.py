"""The call come: who comes, what is pressed, and to which car a call is given."""

import unittest

from tests.helper import DOWN, GIVEN, HIGHEST, UP, ask, build, car, come, events_of, last, run, seen


class ComeTest(unittest.TestCase):
    def test_persons_are_numbered_as_they_come(self):
        answers = ask(build(), come(0, 1), come(1, 0), run(3), come(2, 1))
        self.assertEqual([answers[at][0] for at in (1, 2, 4)], [0, 1, 2])

    def test_the_event_of_a_call_given(self):
        answers = ask(build(), come(1, 2), run(7), come(2, 0))
        self.assertEqual(answers[1], (0, [0, GIVEN, 0, 1, UP]))
        self.assertEqual(answers[3], (1, [7, GIVEN, 0, 2, DOWN]))

    def test_a_call_that_a_car_has_is_not_given_again(self):
        answers = ask(build(cars=6), come(1, 2), come(1, 2), run(1), come(1, 2))
        self.assertEqual(answers[2], (1, []))
        self.assertEqual(answers[4], (2, []))

    def test_a_call_of_each_direction_at_one_floor(self):
        answers = ask(build(), come(1, 2), come(1, 0), car(0))
        self.assertEqual(answers[1:3], [(0, [0, GIVEN, 0, 1, UP]), (1, [0, GIVEN, 0, 1, DOWN])])
        self.assertEqual(answers[3], (0, [0, 0, 0, 0, 0, 2, 1, UP, 1, DOWN]))

    def test_a_call_stands_behind_the_others(self):
        told = seen(0, build(floors=9), come(5, 6), come(2, 1), come(7, 8), come(2, 3))
        self.assertEqual(told.calls, [(5, UP), (2, DOWN), (7, UP), (2, UP)])

    def test_no_such_floors(self):
        for floors in (2, 32):
            for wrong in ((floors, 0), (0, floors), (floors, floors + 1), (HIGHEST, 0), (0, HIGHEST)):
                with self.subTest(floors=floors, wrong=wrong):
                    self.assertEqual(last(build(floors=floors), come(*wrong)), (-1, []))

    def test_the_outmost_floors(self):
        for floors in (2, 32):
            answers = ask(build(floors=floors), come(0, floors - 1), come(floors - 1, 0))
            self.assertEqual(answers[1:], [(0, [0, GIVEN, 0, 0, UP]), (1, [0, GIVEN, 0, floors - 1, DOWN])])

    def test_nobody_wants_the_floor_where_they_are(self):
        for floor in (0, 1, 2, 3):
            self.assertEqual(last(build(), come(floor, floor)), (-1, []))

    def test_two_hundred_persons_come_and_no_more(self):
        calls = [build(floors=32)] + [come(at % 31, 31) for at in range(199)]
        answers = ask(*calls, come(5, 2), come(6, 2), come(7, 2), car(0))
        self.assertEqual([answer[0] for answer in answers[1:203]], list(range(200)) + [-2, -2])
        self.assertEqual(answers[201], (-2, []))
        told = [number for at in range(31) for number in (at, UP)] + [5, DOWN]
        self.assertEqual(answers[-1], (0, [0, 0, 0, 0, 0, 32] + told))

    def test_two_hundred_count_even_when_they_have_left(self):
        calls = [build(room=40)] + [come(0, 1)] * 200 + [run(2000), run(0), come(0, 1)]
        self.assertEqual(last(*calls), (-2, []))

    def test_wrong_floors_are_told_before_too_many_persons(self):
        calls = [build()] + [come(0, 1)] * 200
        self.assertEqual(ask(*calls, come(0, 0), come(3, 0), come(0, 3), come(0, 1))[-4:],
                         [(-1, []), (-1, []), (-1, []), (-2, [])])

    def test_a_new_house_counts_persons_anew(self):
        calls = [build()] + [come(0, 1)] * 200 + [build(), come(0, 1)]
        self.assertEqual(last(*calls), (0, [0, GIVEN, 0, 0, UP]))


class GivenTest(unittest.TestCase):
    """A call is given to the car that would come first (promise 4)."""

    def given(self, *calls):
        events = events_of(last(*calls))
        self.assertEqual([event[1] for event in events], [GIVEN])
        return events[0][2]

    def test_of_equal_cars_the_lowest(self):
        for cars in (1, 2, 6):
            self.assertEqual(self.given(build(cars=cars), come(2, 0)), 0)

    def test_of_equal_cars_the_lowest_of_those_that_come_first(self):
        # Car 0 must stop at 1 before it can go on, cars 1 to 5 are equal.
        self.assertEqual(self.given(build(cars=6), come(1, 2), come(2, 0)), 1)

    def test_six_cars_are_taken_one_by_one(self):
        calls = [build(floors=9, cars=6, opening=60)]
        for number in range(6):
            calls.append(come(number + 1, 8))
            self.assertEqual(self.given(*calls), number)

    def test_the_nearer_car(self):
        # Car 0 rests at floor 8 at last, car 1 at floor 0.
        away = [build(floors=9, cars=2), come(0, 8), run(100)]
        self.assertEqual(seen(0, *away).place, 8)
        self.assertEqual(seen(1, *away).place, 0)
        for floor, number in ((0, 1), (3, 1), (4, 0), (5, 0), (8, 0)):
            with self.subTest(floor=floor):
                self.assertEqual(self.given(*away, come(floor, 8 if floor < 8 else 0)), number)

    def test_a_car_that_comes_by_later_is_passed_over(self):
        # Car 0 goes up from floor 1 on and would only come back for floor 0.
        self.assertEqual(self.given(build(floors=9, cars=2), come(8, 0), run(2), come(0, 8)), 1)

    def test_a_car_that_comes_by_sooner_is_taken(self):
        self.assertEqual(self.given(build(floors=9, cars=2), come(8, 0), run(2), come(5, 8)), 0)

    def test_going_up_a_call_down_waits_for_the_way_back(self):
        # Car 0 at floor 2 would go up to 8 before it served 5 down, car 1 comes sooner from 0.
        self.assertEqual(self.given(build(floors=9, cars=2), come(8, 0), run(2), come(5, 0)), 1)

    def test_ticks_on_the_way_between_floors_count(self):
        # Car 0 has gone 3 of 5 ticks up, so it is ahead of car 1 by 3.
        self.assertEqual(self.given(build(cars=2, speed=5), come(2, 0), run(3), come(1, 2)), 0)
        self.assertEqual(self.given(build(cars=2, speed=5), come(2, 0), run(6), come(0, 2)), 1)

    def test_doors_that_are_not_closed_yet_count(self):
        # Car 0 closes its doors at floor 1 for 60 ticks, car 1 comes from floor 0 within 31.
        calls = [build(cars=2, speed=30, closing=60), come(1, 2), run(35)]
        self.assertEqual(self.given(*calls, come(1, 0)), 1)
        self.assertEqual(self.given(*calls, run(29), come(1, 0)), 1)

    def test_a_full_car_is_reckoned_as_if_it_never_came(self):
        # Car 0 rides by floor 1 full; car 1 comes all the way from floor 0.
        calls = [build(floors=9, cars=2, speed=9), come(0, 8), run(4)]
        self.assertEqual(seen(0, *calls).inside, [0])
        self.assertEqual(self.given(*calls, come(7, 8)), 1)
        roomy = [build(floors=9, cars=2, speed=9, room=2), come(0, 8), run(4), run(9)]
        self.assertEqual(self.given(*roomy, come(7, 8)), 0)

    def test_a_full_car_comes_first_where_somebody_wants_to(self):
        # The doors open there anyway, in the direction in which the call is.
        calls = [build(floors=9, cars=2, speed=9), come(0, 5), run(14)]
        self.assertEqual(self.given(*calls, come(5, 8)), 0)

    def test_of_full_cars_alone_the_lowest(self):
        # Car 1 rides by floor 5 sooner, but both are full.
        calls = [build(floors=9, cars=2, opening=9), come(1, 8), come(2, 8), run(14)]
        self.assertEqual(seen(0, *calls).inside, [0])
        self.assertEqual(seen(1, *calls).inside, [1])
        self.assertEqual(self.given(*calls, come(5, 8)), 0)

    def test_reckoning_changes_no_car(self):
        calls = [build(floors=9, cars=3, room=1), come(0, 5), come(0, 7), come(3, 1), run(9)]
        before = [seen(number, *calls) for number in range(3)]
        after = [seen(number, *calls, come(4, 2)) for number in range(3)]
        for was, now in zip(before, after):
            self.assertEqual([was.place, was.direction, was.doing, was.yet, was.inside, was.pressed],
                             [now.place, now.direction, now.doing, now.yet, now.inside, now.pressed])
            self.assertEqual(was.calls, [call for call in now.calls if call != (4, DOWN)])


if __name__ == "__main__":
    unittest.main()
