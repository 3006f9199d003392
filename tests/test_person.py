"""The call person: whether somebody waits, is inside or has left, from where to where, and when."""

import random
import unittest

from tests.helper import ENTERED, GONE, HIGHEST, INSIDE, LEFT, WAITING
from tests.helper import ask, build, come, events_of, last, person, random_come, random_plan, run


class PersonTest(unittest.TestCase):
    def test_a_whole_ride_of_who_came_at_time_0(self):
        answers = ask(build(), come(1, 2), *[call for tick in range(11) for call in (person(0), run(1))])
        self.assertEqual(answers[2::2], [(WAITING, [1, 2, 1, 0, 0])] * 3 + [(INSIDE, [1, 2, 1, 4, 0])] * 5
                         + [(GONE, [1, 2, 1, 4, 9])] * 3)

    def test_a_whole_ride_of_who_came_later(self):
        answers = ask(build(), run(7), come(2, 0), *[call for tick in range(13) for call in (person(0), run(1))])
        # Two ticks on the way up, doors open at 10, enters at 11; closed at 13, opens at 0 at 16, leaves at 17.
        self.assertEqual(answers[3::2], [(WAITING, [2, 0, 8, 0, 0])] * 4 + [(INSIDE, [2, 0, 8, 12, 0])] * 6
                         + [(GONE, [2, 0, 8, 12, 18])] * 3)

    def test_who_is_left_behind_by_a_full_car(self):
        calls = [build(), come(1, 2), come(1, 2)]
        told = [last(*calls, run(ticks), person(1)) for ticks in range(21)]
        self.assertEqual(told, [(WAITING, [1, 2, 1, 0, 0])] * 13 + [(INSIDE, [1, 2, 1, 14, 0])] * 5
                         + [(GONE, [1, 2, 1, 14, 19])] * 3)
        self.assertEqual(last(*calls, run(21), person(0)), (GONE, [1, 2, 1, 4, 9]))

    def test_waiting_inside_and_left_at_one_time(self):
        calls = [build(floors=4), come(1, 2), run(1), come(1, 3), run(12), come(0, 3)]
        self.assertEqual(ask(*calls, person(0), person(1), person(2))[6:], [
            (GONE, [1, 2, 1, 4, 9]), (INSIDE, [1, 3, 2, 14, 0]), (WAITING, [0, 3, 14, 0, 0])])

    def test_what_was_told_stays_after_leaving(self):
        self.assertEqual(last(build(), come(1, 2), run(2000), run(2000), person(0)), (GONE, [1, 2, 1, 4, 9]))

    def test_from_and_to_the_outmost_floors(self):
        for floors in (2, 32):
            answers = ask(build(floors=floors), come(0, floors - 1), come(floors - 1, 0), person(0), person(1))
            self.assertEqual(answers[3:], [(WAITING, [0, floors - 1, 1, 0, 0]), (WAITING, [floors - 1, 0, 1, 0, 0])])

    def test_late_times(self):
        answers = ask(build(), *[run(2000)] * 390, come(0, 1), run(5), person(0), run(2000), person(0))
        self.assertEqual(answers[-3], (INSIDE, [0, 1, 780001, 780003, 0]))
        self.assertEqual(answers[-1], (GONE, [0, 1, 780001, 780003, 780008]))


class NoSuchPersonTest(unittest.TestCase):
    def test_no_persons_yet(self):
        for who in (0, 1, 199, 200, HIGHEST):
            self.assertEqual(last(build(), person(who)), (-1, []))

    def test_the_last_one_and_one_more(self):
        for count in (1, 2, 5, 198, 199, 200):
            calls = [build()] + [come(1, 0)] * count
            answers = ask(*calls, person(0), person(count - 1), person(count), person(count + 1), person(HIGHEST))
            self.assertEqual(answers[-5:], [(WAITING, [1, 0, 1, 0, 0])] * 2 + [(-1, [])] * 3)

    def test_the_last_that_there_may_be(self):
        calls = [build()] + [come(0, 2)] * 199
        self.assertEqual(last(*calls, person(199)), (-1, []))
        self.assertEqual(last(*calls, come(2, 1), person(199)), (WAITING, [2, 1, 1, 0, 0]))
        self.assertEqual(last(*calls, come(2, 1), come(2, 1), person(200)), (-1, []))

    def test_who_is_refused_is_no_person(self):
        answers = ask(build(), come(1, 1), person(0), come(3, 0), person(0), come(1, 2), come(0, 3), person(1))
        self.assertEqual([answers[at] for at in (2, 4, 7)], [(-1, [])] * 3)

    def test_no_persons_in_another_new_house(self):
        self.assertEqual(last(build(), come(1, 2), build(), person(0)), (-1, []))
        self.assertEqual(last(build(), come(1, 2), build(cars=0), person(0)), (WAITING, [1, 2, 1, 0, 0]))

    def test_before_there_is_a_house(self):
        for who in (0, 199, HIGHEST):
            self.assertEqual(ask(person(who), build(floors=1), person(who)), [(-8, []), (-1, []), (-8, [])])


class AgainstEventsTest(unittest.TestCase):
    def test_each_time_is_that_of_the_event(self):
        for seed in range(40):
            chance = random.Random(seed)
            plan = random_plan(chance)
            calls = []
            for at in range(60):
                calls.extend([random_come(chance, plan[1]), run(chance.choice((0, 1, 1, 2, 9)))])
            persons = []
            now = 0
            for call, answer in zip(calls, ask(plan, *calls)[1:]):
                if call[0] == 2:
                    persons.append([call[1], call[2], now + 1, 0, 0])
                    continue
                now += call[1]
                for time, kind, number, floor, who in events_of(answer):
                    if kind in (ENTERED, LEFT):
                        persons[who][3 if kind == ENTERED else 4] = time + 1
            told = ask(plan, *calls, *[person(who) for who in range(60)])[-60:]
            self.assertEqual(told, [((one[3] > 0) + (one[4] > 0), one) for one in persons], seed)


if __name__ == "__main__":
    unittest.main()
