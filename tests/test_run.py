"""The call run: ticks, and how cars and persons go."""

import unittest

from tests.helper import BEGAN, DOWN, ENTERED, GIVEN, HIGHEST, LEFT, SHUT, UP
from tests.helper import ask, build, car, come, events_of, last, run, seen


class RunTest(unittest.TestCase):
    def test_edges(self):
        for ticks in (0, 1, 1999, 2000):
            self.assertEqual(last(build(), run(ticks)), (0, []))
        for ticks in (2001, HIGHEST):
            self.assertEqual(last(build(), run(ticks)), (-1, []))

    def test_no_ticks_change_nothing(self):
        self.assertEqual(ask(build(), come(1, 2), run(0), car(0))[2:], [(0, []), (0, [0, 0, 0, 0, 0, 1, 1, UP])])

    def test_time_goes_on_while_nothing_comes_about(self):
        self.assertEqual(last(build(), run(2000), run(1), come(1, 0)), (0, [2001, GIVEN, 0, 1, DOWN]))

    def test_a_refused_run_lets_no_time_go_by(self):
        self.assertEqual(last(build(), run(2001), come(1, 0)), (0, [0, GIVEN, 0, 1, DOWN]))

    def test_as_many_events_as_told(self):
        answer = last(build(), come(1, 2), run(2000))
        self.assertEqual(answer[0], 6)
        self.assertEqual(len(answer[1]), 30)


class ExampleTest(unittest.TestCase):
    """The document's own example."""

    def test_events(self):
        self.assertEqual(events_of(last(build(), come(1, 2), run(5))),
                         [(2, BEGAN, 0, 1, UP), (3, ENTERED, 0, 1, 0), (5, SHUT, 0, 1, 1)])

    def test_tick_by_tick(self):
        answers = ask(build(), come(1, 2), *[call for tick in range(12) for call in (run(1), car(0))])
        cars = [answer for answer in answers[3::2]]
        self.assertEqual(cars, [
            (0, [1, UP, 1, 0, 0, 1, 1, UP]),
            (0, [1, UP, 2, 1, 0, 0]),
            (1, [1, UP, 3, 1, 1, 0, 0, 2]),
            (1, [1, UP, 4, 1, 1, 0, 0, 2]),
            (1, [1, UP, 0, 0, 1, 0, 0, 2]),
            (1, [2, UP, 1, 0, 1, 0, 0, 2]),
            (1, [2, 0, 2, 1, 0, 0, 0]),
            (0, [2, 0, 3, 1, 0, 0]),
            (0, [2, 0, 4, 1, 0, 0]),
            (0, [2, 0, 0, 0, 0, 0]),
            (0, [2, 0, 0, 0, 0, 0]),
            (0, [2, 0, 0, 0, 0, 0]),
        ])


class EventsTest(unittest.TestCase):
    def events(self, *calls):
        return events_of(last(*calls))

    def test_a_full_car_comes_again(self):
        self.assertEqual(self.events(build(), come(1, 2), come(1, 2), run(100)), [
            (2, BEGAN, 0, 1, UP), (3, ENTERED, 0, 1, 0), (5, SHUT, 0, 1, 1), (5, GIVEN, 0, 1, UP),
            (7, BEGAN, 0, 2, DOWN), (8, LEFT, 0, 2, 0), (10, SHUT, 0, 2, 0),
            (12, BEGAN, 0, 1, UP), (13, ENTERED, 0, 1, 1), (15, SHUT, 0, 1, 1),
            (17, BEGAN, 0, 2, 0), (18, LEFT, 0, 2, 1), (20, SHUT, 0, 2, 0),
        ])

    def test_a_full_car_rides_by_a_call(self):
        # The call of 1 up is given while there is room; person 1 takes the room at 0.
        events = self.events(build(floors=4), come(0, 3), come(1, 2), run(12))
        self.assertEqual(events[:3], [(1, BEGAN, 0, 0, UP), (2, ENTERED, 0, 0, 0), (4, SHUT, 0, 0, 1)])
        self.assertEqual(events[3], (8, BEGAN, 0, 3, DOWN))

    def test_a_full_car_opens_where_a_floor_is_pressed(self):
        events = self.events(build(floors=4), come(0, 1), come(1, 3), run(12))
        self.assertEqual(events[3:7], [(6, BEGAN, 0, 1, UP), (7, LEFT, 0, 1, 0), (7, ENTERED, 0, 1, 1),
                                       (9, SHUT, 0, 1, 1)])

    def test_leaving_and_entering_in_order(self):
        # 0 and 2 enter at 0, 1 and 3 at 1; all leave at 2 in the order in which they entered.
        events = self.events(build(room=4), come(1, 2), come(0, 2), come(1, 2), come(0, 2), run(100))
        entered = [event[4] for event in events if event[1] == ENTERED]
        left = [event[4] for event in events if event[1] == LEFT]
        self.assertEqual(entered, [1, 3, 0, 2])
        self.assertEqual(left, [1, 3, 0, 2])

    def test_those_who_came_first_enter_first_as_long_as_there_is_room(self):
        events = self.events(build(room=2), come(1, 2), come(1, 0), come(1, 2), come(1, 2), run(5))
        self.assertEqual([event[4] for event in events if event[1] == ENTERED], [0, 2])
        self.assertEqual(events[-2:], [(5, SHUT, 0, 1, 2), (5, GIVEN, 0, 1, UP)])

    def test_those_who_leave_make_room_for_those_who_enter(self):
        events = self.events(build(floors=4, room=2), come(0, 1), come(0, 3), come(1, 3), come(1, 3), run(9))
        self.assertEqual(events[4:8], [(6, BEGAN, 0, 1, UP), (7, LEFT, 0, 1, 0), (7, ENTERED, 0, 1, 2),
                                       (9, SHUT, 0, 1, 2)])

    def test_room_of_forty_is_used_up(self):
        calls = [build(room=40)] + [come(0, 1)] * 41 + [run(4)]
        events = self.events(*calls)
        self.assertEqual([event[4] for event in events if event[1] == ENTERED], list(range(40)))
        self.assertEqual(events[-2:], [(4, SHUT, 0, 0, 40), (4, GIVEN, 0, 0, UP)])

    def test_both_directions_at_one_floor(self):
        events = self.events(build(room=9), come(1, 0), come(1, 2), run(100))
        self.assertEqual(events, [
            (2, BEGAN, 0, 1, UP), (3, ENTERED, 0, 1, 1), (5, SHUT, 0, 1, 1),
            (7, BEGAN, 0, 2, DOWN), (8, LEFT, 0, 2, 1), (10, SHUT, 0, 2, 0),
            (12, BEGAN, 0, 1, DOWN), (13, ENTERED, 0, 1, 0), (15, SHUT, 0, 1, 1),
            (17, BEGAN, 0, 0, 0), (18, LEFT, 0, 0, 0), (20, SHUT, 0, 0, 0),
        ])

    def test_at_rest_up_is_served_before_down(self):
        # The car rests at floor 1 when both come there.
        rest = [build(), come(0, 1), run(50)]
        self.assertEqual(self.events(*rest, come(1, 0), come(1, 2), run(1)), [(51, BEGAN, 0, 1, UP)])
        self.assertEqual(self.events(*rest, come(1, 0), run(1)), [(51, BEGAN, 0, 1, DOWN)])

    def test_nobody_enters_for_another_direction(self):
        # The car stops at 1 on its way up with somebody who leaves there; who wants down stays.
        events = self.events(build(room=9), come(0, 1), come(0, 2), come(1, 0), run(9))
        self.assertEqual([event for event in events if event[1] in (LEFT, ENTERED)][2:], [(7, LEFT, 0, 1, 0)])

    def test_a_car_without_a_call_takes_who_waits_where_it_stops(self):
        # Car 1 has the call of 2 up; car 0 stops there for who is inside, goes on up, and is first in order.
        calls = [build(floors=4, cars=2, speed=10, room=9), come(0, 2), come(0, 3), come(2, 3), come(1, 3), run(40)]
        answers = ask(*calls)
        self.assertEqual(events_of(answers[3]), [(0, GIVEN, 1, 2, UP)])
        at_two = [event for event in events_of(answers[5]) if event[3] == 2]
        self.assertEqual(at_two, [(25, BEGAN, 0, 2, UP), (25, BEGAN, 1, 2, UP), (26, LEFT, 0, 2, 0),
                                  (26, ENTERED, 0, 2, 2), (28, SHUT, 0, 2, 2), (28, SHUT, 1, 2, 1)])

    def test_who_comes_while_doors_stand_open_waits_for_the_next_time(self):
        calls = [build(standing=5, room=9), come(1, 2), run(4)]
        self.assertEqual(seen(0, *calls).doing, 3)
        answers = ask(*calls, come(1, 2), run(30))
        self.assertEqual(answers[3], (1, [4, GIVEN, 0, 1, UP]))
        self.assertEqual(events_of(answers[4])[:3], [(9, SHUT, 0, 1, 1), (10, BEGAN, 0, 1, UP), (11, ENTERED, 0, 1, 1)])

    def test_who_comes_while_doors_close_waits_for_the_next_time(self):
        calls = [build(closing=5, room=9), come(1, 2), run(5)]
        self.assertEqual(seen(0, *calls).doing, 4)
        answers = ask(*calls, come(1, 2), run(30))
        self.assertEqual(answers[3], (1, [5, GIVEN, 0, 1, UP]))
        self.assertEqual(events_of(answers[4])[:3], [(9, SHUT, 0, 1, 1), (10, BEGAN, 0, 1, UP), (11, ENTERED, 0, 1, 1)])

    def test_who_comes_while_doors_begin_to_open_enters(self):
        calls = [build(opening=5, room=9), come(1, 2), run(4)]
        self.assertEqual(seen(0, *calls).doing, 2)
        answers = ask(*calls, come(1, 2), run(30))
        self.assertEqual(answers[3], (1, [4, GIVEN, 0, 1, UP]))
        # Its call is given all the same, so that the doors open there once more.
        self.assertEqual(events_of(answers[4])[:4], [(7, ENTERED, 0, 1, 0), (7, ENTERED, 0, 1, 1),
                                                     (9, SHUT, 0, 1, 2), (10, BEGAN, 0, 1, UP)])

    def test_at_closing_a_call_that_a_car_has_is_not_given_again(self):
        # Person 1 stays behind for want of room, person 2 presses before the doors are closed.
        answers = ask(build(standing=5), come(1, 2), come(1, 2), run(4), come(1, 2), run(5))
        self.assertEqual(answers[4], (2, [4, GIVEN, 0, 1, UP]))
        self.assertEqual(events_of(answers[5]), [(9, SHUT, 0, 1, 1)])

    def test_at_closing_the_call_goes_to_the_car_that_comes_first(self):
        events = self.events(build(cars=2), come(1, 2), come(1, 2), run(5))
        self.assertEqual(events[-2:], [(5, SHUT, 0, 1, 1), (5, GIVEN, 1, 1, UP)])

    def test_at_closing_a_call_is_pressed_for_the_served_direction_alone(self):
        events = self.events(build(room=9), come(1, 2), come(1, 0), run(5))
        self.assertEqual(events[-1], (5, SHUT, 0, 1, 1))

    def test_cars_in_order_within_a_tick(self):
        events = self.events(build(floors=9, cars=3), come(0, 8), come(1, 8), come(2, 8), run(40))
        keys = [(event[0], event[2]) for event in events]
        self.assertEqual(keys, sorted(keys))


class WayTest(unittest.TestCase):
    """Where a car goes and which direction it serves."""

    def stops(self, *calls):
        """Floor and direction of each time at which doors begin to open in what the last call tells."""
        return [event[3:] for event in events_of(last(*calls)) if event[1] == BEGAN]

    def test_it_goes_on_in_one_direction_as_long_as_there_is_something(self):
        calls = [build(floors=9, room=9), come(4, 5), come(2, 1), come(7, 3), come(6, 8), run(400)]
        self.assertEqual(self.stops(*calls),
                         [(4, UP), (5, UP), (6, UP), (8, DOWN), (7, DOWN), (3, DOWN), (2, DOWN), (1, 0)])

    def test_the_nearest_stop_first_from_rest(self):
        rest = [build(floors=9, room=9), come(0, 4), run(100)]
        self.assertEqual(self.stops(*rest, come(7, 8), come(2, 0), run(9))[0], (2, DOWN))
        self.assertEqual(self.stops(*rest, come(6, 8), come(1, 0), run(9))[0], (6, UP))

    def test_of_two_as_near_the_upper_one(self):
        rest = [build(floors=9, room=9), come(0, 4), run(100)]
        self.assertEqual(self.stops(*rest, come(2, 0), come(6, 8), run(9))[0], (6, UP))
        self.assertEqual(self.stops(*rest, come(6, 8), come(2, 0), run(9))[0], (6, UP))

    def test_a_call_the_other_way_waits_while_there_is_a_stop_farther_on(self):
        calls = [build(floors=5, room=9), come(2, 0), come(4, 3), run(40)]
        self.assertEqual(self.stops(*calls), [(4, DOWN), (3, DOWN), (2, DOWN), (0, 0)])

    def test_at_the_end_of_the_way_the_other_direction_is_served(self):
        calls = [build(floors=5, room=9), come(3, 1), run(40)]
        self.assertEqual(self.stops(*calls), [(3, DOWN), (1, 0)])

    def test_a_call_in_its_direction_is_served_with_nothing_farther_on(self):
        # At 3, up is served though only a call down is left besides.
        calls = [build(floors=5, room=9), come(3, 1), come(3, 4), run(4)]
        self.assertEqual(self.stops(*calls), [(3, UP)])

    def test_the_other_call_at_a_floor_stays(self):
        told = seen(0, build(floors=5, room=9), come(3, 1), come(3, 4), run(4))
        self.assertEqual(told.calls, [(3, DOWN)])
        self.assertEqual(told.direction, UP)

    def test_where_somebody_leaves_the_way_back_is_served_if_there_is_a_stop(self):
        calls = [build(floors=5, room=9), come(1, 4), run(6), come(2, 0), run(12)]
        self.assertEqual(self.stops(*calls)[0], (4, DOWN))

    def test_where_somebody_leaves_the_call_of_the_floor_is_taken(self):
        calls = [build(floors=5, room=9), come(1, 3), run(6), come(3, 0), come(1, 0), run(3)]
        self.assertEqual(self.stops(*calls), [(3, DOWN)])

    def left_empty(self):
        """Car 1 serves up at floor 2, but car 0 takes who waits there: car 1 is empty and has no stops."""
        return [build(floors=4, cars=2, speed=10, room=9), come(0, 2), come(0, 3), come(2, 3), come(1, 2), run(27)]

    def test_with_nothing_to_do_it_stands_without_direction(self):
        told = [seen(1, *self.left_empty(), run(ticks)) for ticks in (0, 1, 2, 3)]
        self.assertEqual([(one.place, one.direction, one.doing, one.inside) for one in told],
                         [(20, UP, 4, []), (20, UP, 0, []), (20, 0, 0, []), (20, 0, 0, [])])

    def test_with_nothing_farther_on_it_turns_round(self):
        told = [seen(1, *self.left_empty(), come(1, 0), run(ticks)) for ticks in (0, 1, 2, 3)]
        self.assertEqual([(one.place, one.direction, one.doing, one.calls) for one in told],
                         [(20, UP, 4, [(1, DOWN)]), (20, UP, 0, [(1, DOWN)]),
                          (19, DOWN, 1, [(1, DOWN)]), (18, DOWN, 1, [(1, DOWN)])])

    def test_between_floors_it_goes_on(self):
        # A call behind it does not turn a car round on its way.
        told = [seen(0, build(speed=4, cars=1, floors=5), come(2, 0), run(2), come(0, 1), run(ticks)).place
                for ticks in range(8)]
        self.assertEqual(told, [2, 3, 4, 5, 6, 7, 8, 8])

    def test_downwards_likewise(self):
        calls = [build(floors=5, speed=3, room=9), come(0, 4), run(100), come(3, 1), run(2)]
        told = seen(0, *calls)
        self.assertEqual([told.place, told.direction, told.doing], [10, DOWN, 1])
        self.assertEqual(self.stops(*calls, run(60)), [(3, DOWN), (1, 0)])


if __name__ == "__main__":
    unittest.main()
