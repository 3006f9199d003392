"""The promises 1, 2, 3, 5 and 6 on many houses, seen from outside (4 is in test_come, test_guess and test_slow_house)."""

import random
import unittest

from tests.helper import BEGAN, DOWN, ENTERED, GIVEN, HIGHEST, LEFT, SHUT, UP, SeenCar
from tests.helper import ask, build, calls_of, car, come, events_of, guess, no_calls_of, person
from tests.helper import random_come, random_plan, run, sums, wait

SEEDS = range(60)


def watched(seed):
    """A house asked after every tick: its open, and steps of (call, answer, cars behind it)."""
    chance = random.Random(seed)
    plan = random_plan(chance)
    cars = [car(number) for number in range(plan[2])]
    room_for_calls = 399 // (1 + len(cars))
    calls = []
    for at in range(room_for_calls):
        calls.append(random_come(chance, plan[1]) if chance.random() < 0.4 else run(1))
    answers = ask(plan, *[part for call in calls for part in [call] + cars])[1:]
    steps = []
    for at, call in enumerate(calls):
        mine = answers[at * (1 + len(cars)):(at + 1) * (1 + len(cars))]
        steps.append((call, mine[0], [SeenCar(answer) for answer in mine[1:]]))
    return plan, steps


def direction_of(call):
    return UP if call[2] > call[1] else DOWN


class WatchedTest(unittest.TestCase):
    def test_promise_1_doors_at_floors_one_car_each_and_room_enough(self):
        for seed in SEEDS:
            plan, steps = watched(seed)
            for call, answer, cars in steps:
                inside = [person for seen in cars for person in seen.inside]
                self.assertEqual(len(inside), len(set(inside)), seed)
                for seen in cars:
                    self.assertLessEqual(len(seen.inside), plan[7], seed)
                    self.assertTrue(0 <= seen.place <= (plan[1] - 1) * plan[3], seed)
                    if seen.doing >= 2:
                        self.assertEqual(seen.place % plan[3], 0, seed)
                        self.assertGreater(seen.yet, 0, seed)
                    else:
                        self.assertEqual(seen.yet, 0, seed)

    def test_promise_1_events_are_where_the_car_is(self):
        for seed in SEEDS:
            plan, steps = watched(seed)
            for call, answer, cars in steps:
                if call[0] != 3:
                    continue
                for time, kind, number, floor, what in events_of(answer):
                    if kind != GIVEN:
                        self.assertEqual(cars[number].place, floor * plan[3], seed)

    def test_promise_2_whoever_waits_has_a_call_or_a_car(self):
        for seed in SEEDS:
            plan, steps = watched(seed)
            waiting = {}
            for call, answer, cars in steps:
                if call[0] == 2:
                    waiting[answer[0]] = (call[1], direction_of(call))
                else:
                    for event in events_of(answer):
                        if event[1] == ENTERED:
                            waiting.pop(event[4])
                for floor, direction in waiting.values():
                    given = [seen for seen in cars if (floor, direction) in seen.calls]
                    there = [seen for seen in cars if seen.doing >= 2 and seen.direction == direction
                             and seen.place == floor * plan[3]]
                    self.assertTrue(given or there, seed)
                    self.assertLessEqual(len(given), 1, seed)

    def test_whoever_is_inside_has_their_floor_pressed_or_is_there(self):
        for seed in SEEDS:
            plan, steps = watched(seed)
            wanted = {}
            for call, answer, cars in steps:
                if call[0] == 2:
                    wanted[answer[0]] = call[2]
                for seen in cars:
                    for person in seen.inside:
                        there = seen.doing == 2 and seen.place == wanted[person] * plan[3]
                        self.assertTrue(there or wanted[person] in seen.pressed, seed)


class EverybodyTest(unittest.TestCase):
    """Promise 3: once nobody comes any more, everybody comes where they want."""

    def check(self, plan, comes, pauses):
        calls = [part for pair in zip(comes, pauses) for part in pair]
        end = [run(2000)] * (399 - len(calls))
        answers = ask(plan, *calls, *end)[1:]
        events = [event for call, answer in zip(calls + end, answers) if call[0] == 3 for event in events_of(answer)]
        self.assertEqual(answers[-1], (0, []))
        for person, call in enumerate(comes):
            own = [event for event in events if event[1] in (LEFT, ENTERED) and event[4] == person]
            self.assertEqual([(event[1], event[3]) for event in own], [(ENTERED, call[1]), (LEFT, call[2])])
            self.assertEqual(own[0][2], own[1][2])
            self.assertLess(own[0][0], own[1][0])

    def test_many_houses(self):
        for seed in range(40):
            with self.subTest(seed=seed):
                chance = random.Random(seed)
                plan = random_plan(chance)
                comes = [random_come(chance, plan[1]) for at in range(60)]
                self.check(plan, comes, [run(chance.choice((0, 0, 1, 3, 20))) for call in comes])

    def test_a_slow_narrow_house(self):
        chance = random.Random(1)
        plan = build(floors=32, cars=1, speed=60, opening=60, standing=60, closing=60, room=1)
        comes = [random_come(chance, 32) for at in range(60)]
        self.check(plan, comes, [run(1)] * 60)

    def test_all_at_one_floor(self):
        for cars in (1, 2, 6):
            self.check(build(floors=5, cars=cars), [come(2, (0, 1, 3, 4)[at % 4]) for at in range(100)], [run(0)] * 100)

    def test_two_hundred_persons(self):
        calls = [come(at % 32, (at * 7 + 1) % 32 if at % 32 != (at * 7 + 1) % 32 else (at + 1) % 32)
                 for at in range(200)]
        answers = ask(build(floors=32, cars=6, speed=2, room=3), *calls, *[run(2000)] * 20)
        events = [event for answer in answers[201:] for event in events_of(answer)]
        self.assertEqual(sorted(event[4] for event in events if event[1] == LEFT), list(range(200)))
        self.assertEqual(answers[-1], (0, []))


class PiecesTest(unittest.TestCase):
    """Promise 5: ticks in pieces are the same ticks."""

    def test_run_in_pieces_and_at_once(self):
        for seed in range(40):
            chance = random.Random(seed)
            plan = random_plan(chance)
            asked = [car(number) for number in range(plan[2])] + [person(who) for who in range(9)] + [sums()]
            asked.extend([call for way in calls_of(plan[1])[:9] for call in (wait(*way), guess(*way))])
            at_once = [plan]
            in_pieces = [plan]
            for at in range(20):
                whole = chance.choice((1, 2, 7, 16))
                cut = chance.randint(0, whole)
                call = random_come(chance, plan[1])
                at_once.extend([call, run(whole)])
                in_pieces.extend([call, run(cut), run(0)] + [run(1)] * (whole - cut))
                if len(in_pieces) > 340:
                    break
            first = ask(*at_once, *asked)
            second = ask(*in_pieces, *asked)
            self.assertEqual(self.events(at_once, first), self.events(in_pieces, second), seed)
            self.assertEqual(first[-len(asked):], second[-len(asked):], seed)

    def events(self, calls, answers):
        return [event for call, answer in zip(calls, answers) if call[0] in (2, 3) for event in events_of(answer)]

    def test_two_thousand_ticks_at_once_and_in_pieces(self):
        start = [build(floors=32, cars=2, speed=60, opening=60, standing=60, closing=60, room=2)]
        start += [come(at, 31 - at) for at in range(32)]
        asked = [car(0), car(1), sums(), person(0), person(31), wait(31, DOWN), guess(5, DOWN)]
        at_once = ask(*start, run(2000), *asked)
        for piece in (1000, 500, 40, 16, 8):
            calls = start + [run(piece)] * (2000 // piece)
            in_pieces = ask(*calls, *asked)
            self.assertEqual(at_once[33][1], [number for answer in in_pieces[33:-7] for number in answer[1]])
            self.assertEqual(at_once[-7:], in_pieces[-7:])


class RefusedTest(unittest.TestCase):
    """Promise 6: refused calls change nothing."""

    def test_a_refused_call_between_two_others(self):
        for seed in range(20):
            chance = random.Random(seed)
            plan = random_plan(chance)
            floors, cars = plan[1], plan[2]
            refused = [build(floors=1), build(cars=7), build(speed=0), build(room=41), come(0, floors), come(floors, 0),
                       come(1, 1), run(2001), car(cars), person(199), person(HIGHEST)]
            refused.extend([ask_for(*way) for way in no_calls_of(floors) for ask_for in (wait, guess)])
            calls = []
            for at in range(60):
                calls.append(random_come(chance, floors))
                calls.append(run(chance.choice((0, 1, 2, 5))))
            calls.extend([car(number) for number in range(cars)] + [sums(), person(0), wait(0, UP)])
            plain = ask(plan, *calls)
            mixed = ask(plan, *[part for call in calls for part in (chance.choice(refused), call)])
            self.assertEqual(mixed[1::2], [(-1, [])] * len(calls), seed)
            self.assertEqual(mixed[2::2], plain[1:], seed)

    def test_refused_for_too_many_persons(self):
        start = [build(floors=9, cars=2, room=3)] + [come(at % 8, 8) for at in range(200)]
        plain = ask(*start, run(700), car(0), car(1))
        mixed = ask(*start, come(8, 0), run(700), come(8, 0), car(0), car(1))
        self.assertEqual([mixed[201], mixed[203]], [(-2, []), (-2, [])])
        self.assertEqual(mixed[:201] + [mixed[202]] + mixed[204:], plain)

    def test_refused_as_some_car_has_the_call(self):
        start = [build(floors=9, cars=2, room=2), come(3, 8), come(3, 1), come(5, 0)]
        refused = [guess(3, UP), guess(3, DOWN), guess(5, DOWN)]
        behind = [car(0), car(1), run(2), sums(), run(40), car(0), car(1), person(2)]
        mixed = ask(*start, *refused, *behind)
        self.assertEqual(mixed[4:7], [(-3, [])] * 3)
        self.assertEqual(mixed[7:], ask(*start, *behind)[4:])

    def test_refused_before_there_is_a_house(self):
        calls = [build(), come(1, 2), run(9), car(0), sums()]
        refused = [come(1, 2), run(9), car(0), wait(1, UP), person(0), guess(1, UP), sums(), build(floors=0)]
        self.assertEqual(ask(*refused, *calls)[8:], ask(*calls))


class AskingTest(unittest.TestCase):
    """Calls that change nothing: the other answers are the same with and without them."""

    def asking(self, chance, plan):
        way = chance.choice(calls_of(plan[1]) + no_calls_of(plan[1]))
        who = chance.choice((0, 1, 5, 30, 199))
        return chance.choice((wait(*way), guess(*way), person(who), sums(), car(chance.randrange(plan[2] + 1))))

    def test_with_and_without(self):
        for seed in range(60):
            chance = random.Random(seed)
            plan = random_plan(chance)
            calls = [random_come(chance, plan[1]) if chance.random() < 0.5 else run(chance.choice((0, 1, 2, 9)))
                     for at in range(100)]
            mixed = [plan]
            kept = [0]
            for call in calls:
                mixed.extend([self.asking(chance, plan) for times in range(chance.randrange(4))])
                kept.append(len(mixed))
                mixed.append(call)
            told = ask(*mixed)
            self.assertEqual([told[at] for at in kept], ask(plan, *calls), seed)

    def test_each_kind_by_itself(self):
        chance = random.Random(3)
        plan = build(floors=5, cars=3, speed=2, room=2)
        calls = [random_come(chance, 5) if at % 2 else run(1) for at in range(60)]
        plain = ask(plan, *calls)
        for asking in (car(0), car(2), car(3), wait(0, UP), wait(4, DOWN), wait(0, DOWN), person(0), person(29),
                       person(199), guess(0, UP), guess(2, UP), guess(2, DOWN), guess(4, UP), sums()):
            with self.subTest(asking=asking):
                told = ask(plan, *[part for call in calls for part in (asking, call, asking)])
                self.assertEqual([told[0]] + told[2::3], plain)

    def test_asked_twice_it_tells_the_same(self):
        for seed in range(20):
            chance = random.Random(seed)
            plan = random_plan(chance)
            calls = [call for at in range(40) for call in (random_come(chance, plan[1]), run(chance.randrange(4)))]
            asked = [self.asking(chance, plan) for at in range(100)]
            told = ask(plan, *calls, *[part for call in asked for part in (call, call)])[81:]
            self.assertEqual(told[::2], told[1::2], seed)


class KindsTest(unittest.TestCase):
    """Doors go in their order, each event as told."""

    def test_each_car_opens_then_lets_out_and_in_then_closes(self):
        for seed in SEEDS:
            plan, steps = watched(seed)
            last = {}
            inside = {}
            for call, answer, cars in steps:
                for event in events_of(answer) if call[0] == 3 else []:
                    time, kind, number, floor, what = event
                    if kind == GIVEN:
                        continue
                    before = last.get(number, (0, SHUT, number, 0, 0))
                    allowed = {BEGAN: (SHUT,), LEFT: (BEGAN, LEFT), ENTERED: (BEGAN, LEFT, ENTERED),
                               SHUT: (BEGAN, LEFT, ENTERED)}
                    self.assertIn(before[1], allowed[kind], seed)
                    inside[number] = inside.get(number, 0) + {ENTERED: 1, LEFT: -1}.get(kind, 0)
                    if kind == SHUT:
                        self.assertEqual(what, inside[number], seed)
                    last[number] = event


if __name__ == "__main__":
    unittest.main()
