"""The call guess: to which car a call would be given now, and what is reckoned of each car."""

import random
import unittest

from tests.helper import BEGAN, DOWN, GIVEN, UP
from tests.helper import ask, build, calls_of, car, come, events_of, guess, last, no_calls_of, person
from tests.helper import random_come, random_goal, random_plan, run, seen, sums, wait

NEVER = 20000


class GuessTest(unittest.TestCase):
    def test_every_call_of_a_new_house(self):
        for floors, cars, speed in ((2, 1, 1), (3, 2, 60), (32, 6, 7)):
            for call in calls_of(floors):
                with self.subTest(floors=floors, call=call):
                    # On its way, and one tick at which the doors begin to open.
                    self.assertEqual(last(build(floors=floors, cars=cars, speed=speed), guess(*call)),
                                     (0, [call[0] * speed + 1] * cars))

    def test_no_such_call(self):
        for floors in (2, 3, 32):
            for call in no_calls_of(floors):
                with self.subTest(floors=floors, call=call):
                    self.assertEqual(last(build(floors=floors), come(0, 1), come(1, 0), guess(*call)), (-1, []))

    def test_before_there_is_a_house(self):
        for call in ((0, UP), (1, DOWN), (0, DOWN), (0, 3), (33, UP)):
            self.assertEqual(ask(guess(*call), build(floors=1), guess(*call)), [(-8, []), (-1, []), (-8, [])])

    def test_some_car_has_it(self):
        for cars in (1, 6):
            for floor, goal, direction in ((0, 1, UP), (1, 2, UP), (1, 0, DOWN), (2, 0, DOWN)):
                answer = last(build(cars=cars), come(floor, goal), guess(floor, direction))
                self.assertEqual(answer, (-3, []))

    def test_the_highest_car_has_it(self):
        calls = [build(floors=9, cars=6, opening=60)] + [come(floor, 8) for floor in range(1, 7)]
        self.assertEqual(seen(5, *calls).calls, [(6, UP)])
        self.assertEqual(last(*calls, guess(6, UP)), (-3, []))

    def test_a_call_beside_one_that_a_car_has(self):
        answers = ask(build(), come(1, 2), guess(1, UP), guess(1, DOWN), guess(0, UP), guess(2, DOWN))
        self.assertEqual([answer[0] for answer in answers[2:]], [-3, 0, 0, 0])

    def test_a_car_has_it_until_its_doors_begin_to_open(self):
        calls = [build(opening=3, room=9), come(1, 2)]
        self.assertEqual(last(*calls, run(1), guess(1, UP)), (-3, []))
        # Doors open for three ticks, stand for one and close for one; then they would begin to open again.
        self.assertEqual(last(*calls, run(2), guess(1, UP)), (0, [6]))
        self.assertEqual(last(*calls, run(3), guess(1, UP)), (0, [5]))

    def test_who_waits_does_not_matter(self):
        # Person 1 is left behind while the doors stand open, and no car has the call.
        calls = [build(cars=2, standing=9), come(1, 2), come(1, 2), run(3)]
        self.assertEqual(last(*calls, wait(1, UP)), (1, [1]))
        self.assertEqual(last(*calls, guess(1, UP)), (1, [NEVER, 2]))

    def test_doors_on_the_way_count(self):
        # Up to 1, doors begin to open there and are closed three ticks later, up to 4, doors begin to open.
        self.assertEqual(last(build(floors=5), come(1, 2), guess(4, DOWN)), (0, [1 + 1 + 3 + 3 + 1]))
        self.assertEqual(last(build(floors=5, opening=5, standing=6, closing=7), come(1, 2), guess(4, DOWN)),
                         (0, [1 + 1 + 18 + 3 + 1]))

    def test_a_call_behind_waits_for_the_way_back(self):
        # Up to 8 (6 ticks), doors (1 and 3), back to 0 (8 ticks), doors (1); car 1 is there.
        calls = [build(floors=9, cars=2, room=9), come(8, 0), run(2)]
        self.assertEqual(last(*calls, guess(0, UP)), (1, [6 + 1 + 3 + 8 + 1, 1]))
        self.assertEqual(last(*calls, guess(5, UP)), (0, [3 + 1, 5 + 1]))
        self.assertEqual(last(*calls, guess(5, DOWN)), (1, [6 + 1 + 3 + 3 + 1, 5 + 1]))

    def test_between_floors(self):
        calls = [build(cars=2, speed=5), come(2, 0), run(3)]
        self.assertEqual(last(*calls, guess(1, UP)), (0, [2 + 1, 5 + 1]))
        # Car 0 goes on to 2, opens and closes there, and comes back; car 1 is sooner.
        self.assertEqual(last(*calls, guess(0, UP)), (1, [7 + 1 + 3 + 10 + 1, 1]))

    def test_a_pressed_floor_counts_though_nobody_leaves_there(self):
        calls = [build(floors=9, room=2), come(0, 3), run(4)]
        self.assertEqual(seen(0, *calls).pressed, [3])
        # Up to 3, doors, on to 6, doors.
        self.assertEqual(last(*calls, guess(6, UP)), (0, [3 + 1 + 3 + 3 + 1]))

    def test_nobody_enters_in_the_reckoning(self):
        # Who enters at 1 will press 8, but the reckoning turns at 1 for the call of 0.
        calls = [build(floors=9, room=9), come(1, 8)]
        self.assertEqual(last(*calls, guess(0, UP)), (0, [1]))
        self.assertEqual(last(*calls, run(2), guess(0, UP)), (0, [3 + 1 + 1]))
        self.assertEqual(last(*calls, run(3), guess(0, UP)), (0, [2 + 7 + 1 + 3 + 8 + 1]))


class NeverTest(unittest.TestCase):
    """20,000 where a car does not open for the call within as many ticks."""

    def test_a_full_car_rides_by(self):
        full = [build(floors=9, cars=2, speed=9), come(0, 8), run(4)]
        self.assertEqual(last(*full, guess(7, UP)), (1, [NEVER, 7 * 9 + 1]))
        self.assertEqual(last(*full, guess(7, DOWN)), (1, [NEVER, 7 * 9 + 1]))

    def test_one_more_with_room_does_not(self):
        roomy = [build(floors=9, cars=2, speed=9, room=2), come(0, 8), run(4)]
        self.assertEqual(last(*roomy, guess(7, UP)), (0, [7 * 9 + 1, 7 * 9 + 1]))
        full = [build(floors=9, cars=2, speed=9, room=2), come(0, 8), come(0, 8), run(4)]
        self.assertEqual(last(*full, guess(7, UP)), (1, [NEVER, 7 * 9 + 1]))

    def test_a_full_car_opens_where_a_floor_is_pressed(self):
        full = [build(floors=9, cars=2, speed=9), come(0, 5), run(4)]
        self.assertEqual(last(*full, guess(5, UP)), (0, [5 * 9 + 1] * 2))
        self.assertEqual(last(*full, guess(5, DOWN)), (0, [5 * 9 + 1] * 2))

    def test_where_a_full_car_serves_the_other_direction_it_does_not_come(self):
        # Two inside, for 5 and 7: at 5 it serves up, as 7 is farther on.
        full = [build(floors=9, room=2), come(0, 5), come(0, 7), run(4)]
        self.assertEqual(last(*full, guess(5, UP)), (0, [5 + 1]))
        self.assertEqual(last(*full, guess(5, DOWN)), (0, [NEVER]))
        self.assertEqual(last(*full, guess(7, DOWN)), (0, [5 + 1 + 3 + 2 + 1]))

    def test_a_car_whose_riders_are_about_to_leave_counts_as_full(self):
        # At 2 the doors begin to open at tick 7, and the one inside leaves at 8.
        calls = [build(cars=2), come(1, 2), run(7)]
        self.assertEqual(last(*calls, guess(2, DOWN)), (1, [NEVER, 3]))
        self.assertEqual(last(*calls, run(1), guess(2, DOWN)), (0, [3, 3]))

    def test_of_full_cars_alone_the_lowest(self):
        full = [build(floors=9, cars=3, opening=9), come(1, 8), come(2, 8), come(3, 8), run(15)]
        self.assertEqual([seen(number, *full).inside for number in range(3)], [[0], [1], [2]])
        self.assertEqual(last(*full, guess(5, UP)), (0, [NEVER] * 3))
        self.assertEqual(last(*full, guess(5, UP), come(5, 6)), (3, [15, GIVEN, 0, 5, UP]))

    def test_the_slowest_house_stays_below(self):
        # One car with a call at every floor in both directions but one, just behind it on its way up.
        plan = build(floors=32, speed=60, opening=60, standing=60, closing=60, room=40)
        others = [call for call in calls_of(32) if call != (15, UP)]
        start = [plan, come(16, 17), run(16 * 60 + 1)]
        comes = [come(floor, floor + 1 if way == UP else floor - 1) for floor, way in others]
        answer = last(*start, *comes, guess(15, UP))
        self.assertEqual(answer[0], 0)
        # Its doors close first; then 61 stops, at which doors take a tick to begin and 180 more, and a way of
        # 15 floors up, 31 down and 15 up.
        self.assertEqual(answer[1], [180 + 61 * 181 + 61 * 60 + 1])
        self.assertLess(answer[1][0], NEVER)


class EqualTest(unittest.TestCase):
    def test_of_equal_cars_the_lowest(self):
        for cars in range(1, 7):
            self.assertEqual(last(build(cars=cars), guess(2, DOWN)), (0, [3] * cars))

    def test_of_equal_cars_the_lowest_of_those_that_come_first(self):
        self.assertEqual(last(build(cars=6), come(1, 2), guess(2, DOWN)), (1, [1 + 1 + 3 + 1 + 1] + [3] * 5))

    def test_equal_from_above_and_below(self):
        # Car 0 rests at 8, car 1 at 0.
        away = [build(floors=9, cars=2), come(0, 8), run(100)]
        self.assertEqual(last(*away, guess(4, UP)), (0, [5, 5]))
        self.assertEqual(last(*away, guess(3, UP)), (1, [6, 4]))
        self.assertEqual(last(*away, guess(5, UP)), (0, [4, 6]))


class AgainstComeTest(unittest.TestCase):
    def test_the_call_is_given_to_the_guessed_car(self):
        given = 0
        for seed in range(60):
            chance = random.Random(seed)
            plan = random_plan(chance)
            calls = []
            for at in range(100):
                call = chance.choice(calls_of(plan[1]))
                goal = random_goal(chance, plan[1], call)
                calls.extend([guess(*call), come(call[0], goal), run(chance.choice((0, 1, 1, 3, 20)))])
            answers = ask(plan, *calls)[1:]
            for at in range(0, len(calls), 3):
                guessed, events = answers[at], events_of(answers[at + 1])
                if guessed[0] == -3:
                    self.assertEqual((guessed[1], events), ([], []), seed)
                    continue
                given += 1
                self.assertEqual(len(guessed[1]), plan[2], seed)
                self.assertEqual(guessed[0], guessed[1].index(min(guessed[1])), seed)
                self.assertEqual([event[1:3] for event in events], [(GIVEN, guessed[0])], seed)
        self.assertGreater(given, 1000)

    def test_it_is_refused_where_a_car_has_the_call_alone(self):
        for seed in range(30):
            chance = random.Random(seed)
            plan = random_plan(chance)
            calls = [plan]
            for at in range(40):
                calls.extend([random_come(chance, plan[1]), run(chance.choice((0, 1, 5)))])
            had = [call for number in range(plan[2]) for call in seen(number, *calls).calls]
            every = calls_of(plan[1])
            for call, answer in zip(every, ask(*calls, *[guess(*call) for call in every])[81:]):
                self.assertEqual(answer[0] == -3, call in had, (seed, call))
                self.assertGreaterEqual(answer[0], -3 if call in had else 0, (seed, call))

    def test_doors_begin_to_open_after_as_many_ticks(self):
        # Nobody else is there, so that what is reckoned comes about.
        for seed in range(100):
            chance = random.Random(seed)
            plan = random_plan(chance)
            start = [plan, random_come(chance, plan[1]), run(2000), random_come(chance, plan[1]), run(2000), run(7)]
            call = chance.choice(calls_of(plan[1]))
            answers = ask(*start, guess(*call), come(call[0], random_goal(chance, plan[1], call)), run(2000))
            number, reckoned = answers[6]
            self.assertEqual(events_of(answers[8])[0], (4007 + reckoned[number], BEGAN, number) + call, seed)


class ChangesNothingTest(unittest.TestCase):
    def test_nothing_is_told_otherwise_afterwards(self):
        for seed in range(30):
            chance = random.Random(seed)
            plan = random_plan(chance)
            calls = [plan]
            for at in range(30):
                calls.extend([random_come(chance, plan[1]), run(chance.choice((0, 1, 5)))])
            asked = [car(number) for number in range(plan[2])] + [person(who) for who in range(30)] + [sums()]
            asked.extend([wait(*call) for call in calls_of(plan[1])])
            asked.append(run(50))
            guesses = [guess(*call) for call in calls_of(plan[1])]
            before = ask(*calls, *asked)[61:]
            after = ask(*calls, *guesses, *guesses, *asked)[61:]
            count = len(guesses)
            self.assertEqual(after[:count], after[count:2 * count], seed)
            self.assertEqual(after[2 * count:], before, seed)


if __name__ == "__main__":
    unittest.main()
