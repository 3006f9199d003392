"""The call sums: the time, how many have left and came, the ticks waited and the ticks inside."""

import random
import unittest

from tests.helper import GONE
from tests.helper import ask, build, come, last, person, random_come, random_plan, run, sums


class SumsTest(unittest.TestCase):
    def test_a_new_house(self):
        for cars in (1, 6):
            self.assertEqual(last(build(cars=cars), sums()), (0, [0, 0, 0, 0]))

    def test_the_time(self):
        answers = ask(build(), run(0), sums(), run(1), sums(), run(2000), sums(), run(2001), sums())
        self.assertEqual(answers[2::2], [(time, [0, 0, 0, 0]) for time in (0, 1, 2001, 2001)])

    def test_the_latest_time(self):
        self.assertEqual(last(build(), *[run(2000)] * 398, sums()), (796000, [0, 0, 0, 0]))

    def test_one_ride_tick_by_tick(self):
        answers = ask(build(), come(1, 2), *[call for tick in range(11) for call in (sums(), run(1))])
        self.assertEqual(answers[2::2], [
            (0, [0, 1, 0, 0]), (1, [0, 1, 1, 0]), (2, [0, 1, 2, 0]), (3, [0, 1, 3, 0]), (4, [0, 1, 3, 1]),
            (5, [0, 1, 3, 2]), (6, [0, 1, 3, 3]), (7, [0, 1, 3, 4]), (8, [1, 1, 3, 5]), (9, [1, 1, 3, 5]),
            (10, [1, 1, 3, 5]),
        ])

    def test_ticks_before_somebody_came_do_not_count(self):
        self.assertEqual(last(build(), run(50), come(1, 2), sums()), (50, [0, 1, 0, 0]))
        self.assertEqual(last(build(), run(50), come(1, 2), run(4), sums()), (54, [0, 1, 3, 1]))
        self.assertEqual(last(build(), run(50), come(1, 2), run(400), sums()), (450, [1, 1, 3, 5]))

    def test_who_is_left_behind_waits_on(self):
        # The first enters at 3 and leaves at 8, the second at 13 and 18.
        calls = [build(), come(1, 2), come(1, 2)]
        self.assertEqual(last(*calls, run(5), sums()), (5, [0, 2, 3 + 5, 2]))
        self.assertEqual(last(*calls, run(15), sums()), (15, [1, 2, 3 + 13, 5 + 2]))
        self.assertEqual(last(*calls, run(90), sums()), (90, [2, 2, 3 + 13, 5 + 5]))

    def test_two_hundred_persons(self):
        calls = [build(floors=2, room=40, standing=60)] + [come(1, 0)] * 201
        self.assertEqual(last(*calls, sums()), (0, [0, 200, 0, 0]))
        # The first forty enter at 3.
        self.assertEqual(last(*calls, run(3), sums()), (3, [0, 200, 600, 0]))
        self.assertEqual(last(*calls, run(13), sums()), (13, [0, 200, 40 * 3 + 160 * 13, 400]))
        self.assertEqual(last(*calls, run(2000), run(2000), sums())[1][:2], [200, 200])

    def test_a_refused_come_is_not_counted(self):
        self.assertEqual(last(build(), come(1, 1), come(3, 0), run(9), sums()), (9, [0, 0, 0, 0]))

    def test_another_new_house_begins_anew(self):
        self.assertEqual(last(build(), come(1, 2), run(20), build(), sums()), (0, [0, 0, 0, 0]))
        self.assertEqual(last(build(), come(1, 2), run(20), build(speed=0), sums()), (20, [1, 1, 3, 5]))

    def test_before_there_is_a_house(self):
        self.assertEqual(ask(sums(), build(room=0), sums()), [(-8, []), (-1, []), (-8, [])])


def reckoned_anew(now, persons):
    """The sums of the document, from what person tells of each."""
    left = len([state for state, told in persons if state == GONE])
    waited = 0
    inside = 0
    for state, (origin, goal, came, entered, gone) in persons:
        waited += (entered or now + 1) - came
        if entered:
            inside += (gone or now + 1) - entered
    return (now, [left, len(persons), waited, inside])


class AgainstPersonTest(unittest.TestCase):
    def check(self, plan, calls):
        """After every call of the list: what sums tells, and what person tells of everybody."""
        now = 0
        count = 0
        for at, call in enumerate(calls):
            now += call[1] if call[0] == 3 else 0
            count += 1 if call[0] == 2 else 0
            told = ask(plan, *calls[:at + 1], sums(), *[person(who) for who in range(count)])[at + 2:]
            self.assertEqual(told[0], reckoned_anew(now, told[1:]), (plan, calls[:at + 1]))
        return told

    def test_after_every_tick_of_several_runs(self):
        for seed in range(25):
            chance = random.Random(seed)
            plan = random_plan(chance)
            calls = [random_come(chance, plan[1]) if chance.random() < 0.3 else run(1) for at in range(150)]
            self.check(plan, calls)

    def test_until_everybody_has_left(self):
        for seed in range(5):
            chance = random.Random(seed)
            comes = [random_come(chance, 5) for at in range(6)]
            calls = [call for one in comes for call in (one, run(1))] + [run(1)] * 150
            told = self.check(build(floors=5, cars=2, room=seed % 3 + 1), calls)
            self.assertEqual(told[0][1][:2], [6, 6])

    def test_with_longer_runs(self):
        for seed in range(10):
            chance = random.Random(seed)
            plan = random_plan(chance)
            calls = [random_come(chance, plan[1]) if chance.random() < 0.6 else run(chance.choice((0, 3, 40, 700)))
                     for at in range(100)]
            self.check(plan, calls)


if __name__ == "__main__":
    unittest.main()
