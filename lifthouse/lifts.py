"""Calls on one object, handed in and answered as flat lists of whole numbers."""

from lifthouse.cars import Plan
from lifthouse.house import WRONG_NUMBER, House

NO_HOUSE = -8

BUILD = 1
COME = 2
RUN = 3
CAR = 4
WAIT = 5
PERSON = 6
GUESS = 7

# By the call's number: how many whole numbers stand behind it.
ARGUMENT_COUNTS = (0, 7, 2, 1, 1, 2, 1, 2, 0)

# The least and the most of floors, cars, speed, opening, standing, closing, room.
PLAN_EDGES = ((2, 32), (1, 6), (1, 60), (1, 60), (1, 60), (1, 60), (1, 40))


class Desk:
    """What the calls of one list are made on: a house, or none yet."""

    def __init__(self):
        self.house = None

    def build(self, numbers):
        for number, edges in zip(numbers, PLAN_EDGES):
            if number < edges[0] or number > edges[1]:
                return (WRONG_NUMBER, [])
        self.house = House(Plan(numbers))
        return (0, [])

    def reply(self, call, numbers):
        if call == BUILD:
            return self.build(numbers)
        if self.house is None:
            return (NO_HOUSE, [])
        return reply_of(self.house, call, numbers)


def reply_of(house, call, numbers):
    if call == COME:
        return house.come(numbers[0], numbers[1])
    if call == RUN:
        return house.run(numbers[0])
    if call == CAR:
        return house.tell_car(numbers[0])
    if call == WAIT:
        return house.tell_waiting(numbers[0], numbers[1])
    if call == PERSON:
        return house.tell_person(numbers[0])
    if call == GUESS:
        return house.guess(numbers[0], numbers[1])
    # The one that is left is 8, sums.
    return house.tell_sums()


def told_of(reply):
    """A reply's numbers as they are told, with how many they are before them."""
    number = reply[0]
    listed = reply[1]
    if len(listed) == 0:
        return [1, number]
    return [len(listed) + 3, number, len(listed)] + listed + [0]


def answers(calls):
    desk = Desk()
    told = []
    at = 0
    while at < len(calls):
        call = calls[at]
        behind = at + 1 + ARGUMENT_COUNTS[call]
        told.extend(told_of(desk.reply(call, calls[at + 1:behind])))
        at = behind
    return told
