"""The call wait: who waits at a floor for a direction, in the order in which they came."""

import random
import unittest

from tests.helper import DOWN, ENTERED, UP
from tests.helper import ask, build, calls_of, come, events_of, last, no_calls_of, random_come, random_plan, run, wait


class WaitTest(unittest.TestCase):
    def test_nobody_waits_in_a_new_house(self):
        for floors in (2, 3, 32):
            for call in calls_of(floors):
                with self.subTest(floors=floors, call=call):
                    self.assertEqual(last(build(floors=floors), wait(*call)), (0, []))

    def test_the_outmost_floors(self):
        for floors in (2, 3, 32):
            answers = ask(build(floors=floors), come(0, floors - 1), come(floors - 1, 0),
                          wait(0, UP), wait(floors - 1, DOWN), wait(floors - 2, UP), wait(1, DOWN))
            self.assertEqual(answers[3:5], [(1, [0]), (1, [1])])
            self.assertEqual(answers[5:], [(1, [0]), (1, [1])] if floors == 2 else [(0, []), (0, [])])

    def test_no_such_call(self):
        for floors in (2, 3, 32):
            for call in no_calls_of(floors):
                with self.subTest(floors=floors, call=call):
                    self.assertEqual(last(build(floors=floors), come(0, 1), come(1, 0), wait(*call)), (-1, []))

    def test_before_there_is_a_house(self):
        for call in ((0, UP), (1, DOWN), (0, DOWN), (0, 3), (33, UP)):
            self.assertEqual(ask(wait(*call), build(floors=1), wait(*call)), [(-8, []), (-1, []), (-8, [])])

    def test_in_the_order_in_which_they_came(self):
        comes = [come(1, 2), come(1, 0), come(2, 1), come(1, 4), come(1, 0), come(0, 4), come(1, 3), come(2, 3)]
        answers = ask(build(floors=5, cars=2), *comes, wait(1, UP), wait(1, DOWN), wait(2, DOWN), wait(2, UP),
                      wait(0, UP), wait(3, UP), wait(3, DOWN), wait(4, DOWN))
        self.assertEqual(answers[9:], [(3, [0, 3, 6]), (2, [1, 4]), (1, [2]), (1, [7]), (1, [5]),
                                       (0, []), (0, []), (0, [])])

    def test_a_direction_is_up_if_the_wanted_floor_is_above(self):
        for goal in range(9):
            if goal != 4:
                answers = ask(build(floors=9), come(4, goal), wait(4, UP), wait(4, DOWN))
                self.assertEqual(answers[2:], [(1, [0]), (0, [])] if goal > 4 else [(0, []), (1, [0])])

    def test_they_wait_until_the_tick_at_which_they_enter(self):
        answers = ask(build(), come(1, 2), *[call for tick in range(5) for call in (wait(1, UP), run(1))])
        self.assertEqual(answers[2::2], [(1, [0]), (1, [0]), (1, [0]), (0, []), (0, [])])

    def test_who_is_left_behind_by_a_full_car_waits_on(self):
        calls = [build(room=2)] + [come(1, 2)] * 5
        self.assertEqual(last(*calls, run(2), wait(1, UP)), (5, [0, 1, 2, 3, 4]))
        self.assertEqual(last(*calls, run(3), wait(1, UP)), (3, [2, 3, 4]))
        self.assertEqual(last(*calls, run(3), come(1, 2), wait(1, UP)), (4, [2, 3, 4, 5]))
        self.assertEqual(last(*calls, run(13), wait(1, UP)), (1, [4]))
        self.assertEqual(last(*calls, run(23), wait(1, UP)), (0, []))

    def test_nobody_waits_where_they_left(self):
        answers = ask(build(), come(1, 2), run(100), *[wait(*call) for call in calls_of(3)])
        self.assertEqual(answers[3:], [(0, [])] * 4)

    def test_who_is_refused_does_not_wait(self):
        answers = ask(build(), come(1, 1), come(1, 3), come(3, 1), wait(1, UP), wait(1, DOWN))
        self.assertEqual(answers[4:], [(0, []), (0, [])])

    def test_two_hundred_wait_and_no_more(self):
        calls = [build()] + [come(0, 1)] * 201
        self.assertEqual(last(*calls, wait(0, UP)), (200, list(range(200))))

    def test_nobody_waits_in_another_new_house(self):
        self.assertEqual(last(build(), come(1, 2), build(), wait(1, UP)), (0, []))
        self.assertEqual(last(build(), come(1, 2), build(room=0), wait(1, UP)), (1, [0]))


class AgainstEventsTest(unittest.TestCase):
    def test_who_came_and_did_not_enter_yet(self):
        for seed in range(40):
            chance = random.Random(seed)
            plan = random_plan(chance)
            calls = [random_come(chance, plan[1]) if chance.random() < 0.5 else run(chance.choice((1, 1, 1, 4)))
                     for at in range(120)]
            asked = [wait(*call) for call in calls_of(plan[1])]
            queues = {call[1:]: [] for call in asked}
            for at, (call, answer) in enumerate(zip(calls, ask(plan, *calls)[1:])):
                self.follow(queues, call, answer)
                # Asked of some calls on the way, of all at the end.
                some = asked if at == len(calls) - 1 else chance.sample(asked, min(len(asked), 4))
                told = ask(plan, *calls[:at + 1], *some)[at + 2:]
                self.assertEqual(told, [(len(queues[one[1:]]), queues[one[1:]]) for one in some], (seed, at))

    def follow(self, queues, call, answer):
        if call[0] == 2:
            queues[(call[1], UP if call[2] > call[1] else DOWN)].append(answer[0])
            return
        for time, kind, number, floor, who in events_of(answer):
            if kind == ENTERED:
                own = [queue for queue in queues.values() if who in queue]
                self.assertEqual(len(own), 1)
                # The first of those who wait there enters first.
                self.assertEqual(own[0].pop(0), who)


if __name__ == "__main__":
    unittest.main()
