"""A house with its cars and persons.

An answer is a pair: a number, below 0 if the call is refused, and a list of numbers.
"""

from lifthouse.cars import DOORS_BEGIN, DOORS_SHUT, DOORS_STAND, DOWN, UP
from lifthouse.cars import Car, pass_quietly, quiet_ticks, tick_car
from lifthouse.persons import LEFT, Person, note_entering, note_leaving, state_of, ticks_inside, ticks_waited
from lifthouse.reckoning import first_of, reckoned_of_all

WRONG_NUMBER = -1
TOO_MANY_PERSONS = -2
CALL_IS_HAD = -3

MOST_PERSONS = 200
MOST_TICKS = 2000

CALL_GIVEN = 1
DOORS_BEGAN = 2
SOMEBODY_LEFT = 3
SOMEBODY_ENTERED = 4
DOORS_CLOSED = 5
EVENT_SIZE = 5


class House:
    """A house; events are kept flat, five numbers each."""

    def __init__(self, plan):
        self.plan = plan
        self.now = 0
        self.cars = [Car() for number in range(plan.car_count)]
        self.persons = []
        # By call: the numbers of those who wait, in the order in which they came.
        self.waiting = {}

    def come(self, floor, goal):
        floors = self.plan.floors
        if floor >= floors or goal >= floors or floor == goal:
            return (WRONG_NUMBER, [])
        who = len(self.persons)
        if who >= MOST_PERSONS:
            return (TOO_MANY_PERSONS, [])
        call = (floor, UP if goal > floor else DOWN)
        self.persons.append(Person(floor, goal, self.now))
        self.waiting[call] = self.who_waits(call) + [who]
        return (who, self.press(call))

    def run(self, ticks):
        if ticks > MOST_TICKS:
            return (WRONG_NUMBER, [])
        end = self.now + ticks
        events = []
        while self.now < end:
            quiet = min(self.quiet_ticks_of_all(), end - self.now)
            if quiet > 0:
                self.pass_quietly_all(quiet)
            else:
                events.extend(self.tick())
        return (len(events) // EVENT_SIZE, events)

    def tell_car(self, number):
        if number >= len(self.cars):
            return (WRONG_NUMBER, [])
        car = self.cars[number]
        told = [car.place, car.direction, car.doing, car.yet, len(car.pressed), len(car.calls)]
        told.extend(car.inside)
        told.extend(car.pressed)
        for call in car.calls:
            told.extend(call)
        return (len(car.inside), told)

    def tell_waiting(self, floor, direction):
        if not self.is_call(floor, direction):
            return (WRONG_NUMBER, [])
        queue = self.who_waits((floor, direction))
        return (len(queue), list(queue))

    def tell_person(self, who):
        if who >= len(self.persons):
            return (WRONG_NUMBER, [])
        person = self.persons[who]
        return (state_of(person), [person.origin, person.goal, person.came, person.entered, person.left])

    def guess(self, floor, direction):
        if not self.is_call(floor, direction):
            return (WRONG_NUMBER, [])
        call = (floor, direction)
        if self.is_had(call):
            return (CALL_IS_HAD, [])
        reckoned = reckoned_of_all(self.cars, self.plan, call)
        return (first_of(reckoned), reckoned)

    def tell_sums(self):
        left = [person for person in self.persons if state_of(person) == LEFT]
        waited = sum([ticks_waited(person, self.now) for person in self.persons])
        inside = sum([ticks_inside(person, self.now) for person in self.persons])
        return (self.now, [len(left), len(self.persons), waited, inside])

    def is_call(self, floor, direction):
        highest = self.plan.floors - 1
        if direction == UP:
            return floor < highest
        return direction == DOWN and floor > 0 and floor <= highest

    def who_waits(self, call):
        return self.waiting.get(call, [])

    def is_had(self, call):
        return any([call in car.calls for car in self.cars])

    def press(self, call):
        """Give the call to a car unless one has it, and tell the event of that."""
        if self.is_had(call):
            return []
        number = first_of(reckoned_of_all(self.cars, self.plan, call))
        self.cars[number].calls.append(call)
        return [self.now, CALL_GIVEN, number, call[0], call[1]]

    def quiet_ticks_of_all(self):
        return min([quiet_ticks(car, self.plan) for car in self.cars])

    def pass_quietly_all(self, ticks):
        self.now += ticks
        for car in self.cars:
            pass_quietly(car, self.plan, ticks)

    def tick(self):
        self.now += 1
        events = []
        for number in range(len(self.cars)):
            events.extend(self.tick_one(number))
        return events

    def tick_one(self, number):
        car = self.cars[number]
        brought = tick_car(car, self.plan)
        floor = car.place // self.plan.speed
        if brought == DOORS_BEGIN:
            return [self.now, DOORS_BEGAN, number, floor, car.direction]
        if brought == DOORS_STAND:
            return self.let_leave(number, floor) + self.let_enter(number, floor)
        if brought == DOORS_SHUT:
            return self.shut(number, floor)
        return []

    def let_leave(self, number, floor):
        car = self.cars[number]
        events = []
        staying = []
        for who in car.inside:
            if self.persons[who].goal == floor:
                note_leaving(self.persons[who], self.now)
                events.extend([self.now, SOMEBODY_LEFT, number, floor, who])
            else:
                staying.append(who)
        car.inside = staying
        return events

    def let_enter(self, number, floor):
        car = self.cars[number]
        call = (floor, car.direction)
        queue = self.who_waits(call)
        places = self.plan.room - len(car.inside)
        self.waiting[call] = queue[places:]
        events = []
        for who in queue[:places]:
            person = self.persons[who]
            note_entering(person, self.now)
            car.inside.append(who)
            if person.goal not in car.pressed:
                car.pressed.append(person.goal)
            events.extend([self.now, SOMEBODY_ENTERED, number, floor, who])
        return events

    def shut(self, number, floor):
        car = self.cars[number]
        events = [self.now, DOORS_CLOSED, number, floor, len(car.inside)]
        call = (floor, car.direction)
        if len(self.who_waits(call)) > 0:
            events.extend(self.press(call))
        return events
