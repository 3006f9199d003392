"""The program against a second telling of the document: tick by tick, with no tick passed over.

It is written apart from the package, sentence by sentence, and is slow; it serves as a check of
the answers to long and mixed lists of all eight calls, of promise 4 above all.
"""

import copy
import random
import unittest

from tests.helper import ask, build, calls_of, car, come, guess, no_calls_of, person, random_come, random_plan
from tests.helper import run, sums, wait


class SlowHouse:
    def __init__(self, plan):
        (self.floors, cars, self.speed, self.opening, self.standing, self.closing, self.room) = plan[1:]
        self.time = 0
        self.persons = []
        self.cars = [dict(pos=0, dir=0, does=0, yet=0, pressed=[], calls=[], inside=[]) for at in range(cars)]
        self.events = []

    def beyond(self, c, f, d):
        stops = c["pressed"] + [floor for floor, way in c["calls"]]
        return any(stop > f if d == 1 else stop < f for stop in stops)

    def closed(self, c):
        """A tick of a closed car; the direction served, if its doors begin to open."""
        d = c["dir"]
        if c["pos"] % self.speed:
            c["pos"] += 1 if d == 1 else -1
            c["does"] = 1
            return None
        f = c["pos"] // self.speed
        stops = c["pressed"] + [floor for floor, way in c["calls"]]
        if not stops:
            c["does"] = c["dir"] = 0
            return None
        ways = (1, 2) if d == 0 else (d,) if self.beyond(c, f, d) else (d, 3 - d)
        called = len(c["inside"]) < self.room and any((f, way) in c["calls"] for way in ways)
        if f in c["pressed"] or called:
            return self.serve(c, f)
        if d and self.beyond(c, f, d):
            pass
        elif d and self.beyond(c, f, 3 - d):
            c["dir"] = 3 - d
        else:
            nearest = sorted(stops, key=lambda stop: (abs(stop - f), -stop))[0]
            if nearest == f:
                # A full car with nothing left but a call where it is: it has nowhere to go.
                return None
            c["dir"] = 1 if nearest > f else 2
        c["pos"] += 1 if c["dir"] == 1 else -1
        c["does"] = 1
        return None

    def serve(self, c, f):
        d = c["dir"]
        if d:
            order = [(d, "call"), (d, "stop"), (3 - d, "call"), (3 - d, "stop")]
        else:
            order = [(1, "call"), (2, "call"), (1, "stop"), (2, "stop")]
        served = 0
        for way, what in order:
            if (f, way) in c["calls"] if what == "call" else self.beyond(c, f, way):
                served = way
                break
        c["dir"] = served
        c["pressed"] = [floor for floor in c["pressed"] if floor != f]
        c["calls"] = [call for call in c["calls"] if call != (f, served)]
        c["does"] = 2
        c["yet"] = self.opening
        return served

    def doors(self, c):
        """A tick of doors; what they do from now on, if it is something else."""
        c["yet"] -= 1
        if c["yet"]:
            return None
        c["does"] = {2: 3, 3: 4, 4: 0}[c["does"]]
        c["yet"] = {3: self.standing, 4: self.closing, 0: 0}[c["does"]]
        return c["does"]

    def reckon(self, c, call):
        c = copy.deepcopy(c)
        c["calls"].append(call)
        been = set()
        for ticks in range(1, 20001):
            # Stops only become fewer here, so that a car that is once more as it was goes round for ever.
            now = (c["pos"], c["dir"], c["does"], c["yet"], len(c["pressed"]), len(c["calls"]))
            if now in been:
                return 20000
            been.add(now)
            if c["does"] < 2:
                self.closed(c)
            else:
                self.doors(c)
            if call not in c["calls"]:
                return ticks
        return 20000

    def has(self, call):
        return any(call in c["calls"] for c in self.cars)

    def press(self, call):
        if self.has(call):
            return
        reckoned = [self.reckon(c, call) for c in self.cars]
        first = reckoned.index(min(reckoned))
        self.cars[first]["calls"].append(call)
        self.events.append((self.time, 1, first, call[0], call[1]))

    def waiting(self, f, d):
        return [k for k, who in enumerate(self.persons) if who["entered"] is None and who["call"] == (f, d)]

    def tick(self):
        self.time += 1
        for number, c in enumerate(self.cars):
            if c["does"] < 2:
                served = self.closed(c)
                if served is not None:
                    self.events.append((self.time, 2, number, c["pos"] // self.speed, served))
            else:
                self.after_doors(number, c, self.doors(c))

    def after_doors(self, number, c, does):
        f = c["pos"] // self.speed
        if does == 3:
            for k in [k for k in c["inside"] if self.persons[k]["goal"] == f]:
                c["inside"].remove(k)
                self.persons[k]["left"] = self.time
                self.events.append((self.time, 3, number, f, k))
            for k in self.waiting(f, c["dir"]):
                if len(c["inside"]) == self.room:
                    break
                self.persons[k]["entered"] = self.time
                c["inside"].append(k)
                if self.persons[k]["goal"] not in c["pressed"]:
                    c["pressed"].append(self.persons[k]["goal"])
                self.events.append((self.time, 4, number, f, k))
        if does == 0:
            self.events.append((self.time, 5, number, f, len(c["inside"])))
            if self.waiting(f, c["dir"]):
                self.press((f, c["dir"]))

    def answer(self, call):
        self.events = []
        if call[0] == 2:
            way = (call[1], 1 if call[2] > call[1] else 2)
            self.persons.append(dict(start=call[1], goal=call[2], call=way, came=self.time, entered=None, left=None))
            self.press(way)
            number = len(self.persons) - 1
        elif call[0] == 3:
            for at in range(call[1]):
                self.tick()
            number = len(self.events)
        else:
            return self.asked(call)
        return (number, [part for event in self.events for part in event])

    def asked(self, call):
        if call[0] == 4:
            return self.told(self.cars[call[1]])
        if call[0] == 6:
            return self.person(call[1])
        if call[0] == 8:
            return self.sums()
        way = call[1:]
        if way not in calls_of(self.floors):
            return (-1, [])
        if call[0] == 5:
            return (len(self.waiting(*way)), self.waiting(*way))
        if self.has(way):
            return (-3, [])
        reckoned = [self.reckon(c, way) for c in self.cars]
        return (reckoned.index(min(reckoned)), reckoned)

    def person(self, k):
        if k >= len(self.persons):
            return (-1, [])
        who = self.persons[k]
        times = [who["came"], who["entered"], who["left"]]
        return (2 - times[1:].count(None), [who["start"], who["goal"]] + [0 if at is None else at + 1 for at in times])

    def sums(self):
        waited = inside = 0
        for who in self.persons:
            # Each tick up to now, as it was spent.
            for at in range(who["came"], self.time):
                if who["entered"] is None or at < who["entered"]:
                    waited += 1
                elif who["left"] is None or at < who["left"]:
                    inside += 1
        left = sum(who["left"] is not None for who in self.persons)
        return (self.time, [left, len(self.persons), waited, inside])

    def told(self, c):
        told = [c["pos"], c["dir"], c["does"], c["yet"], len(c["pressed"]), len(c["calls"])]
        calls = [part for pair in c["calls"] for part in pair]
        return (len(c["inside"]), told + c["inside"] + c["pressed"] + calls)


class SlowHouseTest(unittest.TestCase):
    def check(self, plan, calls):
        slow = SlowHouse(plan)
        for at, (call, answer) in enumerate(zip(calls, ask(plan, *calls)[1:])):
            self.assertEqual(answer, slow.answer(call), f"call {at}: {call} of {[plan] + calls[:at]}")

    def mixed(self, seed, plan, comes, pauses):
        chance = random.Random(seed)
        calls = []
        for at in range(comes):
            calls.append(random_come(chance, plan[1]))
            calls.append(run(chance.choice(pauses)))
            calls.append(car(chance.randrange(plan[2])))
            calls.append(self.asking(chance, plan[1], at))
        return calls + [run(2000), sums()] + [car(number) for number in range(plan[2])]

    def asking(self, chance, floors, at):
        """One of the calls that change nothing, most often one that is not refused."""
        way = chance.choice(calls_of(floors) if chance.random() < 0.9 else no_calls_of(floors))
        return chance.choice((wait(*way), guess(*way), guess(*way), person(chance.randrange(at + 2)), sums()))

    def test_many_houses(self):
        for seed in range(100):
            with self.subTest(seed=seed):
                plan = random_plan(random.Random(seed))
                self.check(plan, self.mixed(seed, plan, 30, (0, 0, 1, 2, 5, 30)))

    def test_many_houses_with_room(self):
        for seed in range(100):
            with self.subTest(seed=seed):
                plan = random_plan(random.Random(seed))[:7] + (40,)
                self.check(plan, self.mixed(seed, plan, 60, (0, 0, 0, 1, 3)))

    def test_everything_that_can_be_asked(self):
        for seed in range(40):
            with self.subTest(seed=seed):
                chance = random.Random(seed)
                plan = random_plan(chance)
                calls = []
                for at in range(60):
                    calls.extend([random_come(chance, plan[1]), run(chance.choice((0, 0, 1, 3, 12)))])
                for way in calls_of(plan[1]):
                    calls.extend([wait(*way), guess(*way)])
                calls.extend([person(who) for who in range(61)] + [sums()])
                self.check(plan, calls)

    def test_a_crowded_house(self):
        plan = build(floors=6, cars=3, speed=2, room=2)
        self.check(plan, self.mixed(5, plan, 80, (0, 0, 1)))

    def test_the_highest_and_slowest_house(self):
        plan = build(floors=32, cars=6, speed=60, opening=60, standing=60, closing=60, room=40)
        self.check(plan, self.mixed(2, plan, 60, (0, 0, 1, 59, 60, 61, 600)))

    def test_the_lowest_house(self):
        for cars in (1, 6):
            plan = build(floors=2, cars=cars)
            self.check(plan, [come(at % 2, 1 - at % 2) for at in range(20)] + [run(1)] * 30 + [run(400)])


if __name__ == "__main__":
    unittest.main()
