"""What the tests share: calls written as tuples, answers read as pairs, and houses to ask in steps."""

from lifthouse.lifts import answers

UP = 1
DOWN = 2

GIVEN = 1
BEGAN = 2
LEFT = 3
ENTERED = 4
SHUT = 5

WAITING = 0
INSIDE = 1
GONE = 2

HIGHEST = 4294967295


def build(floors=3, cars=1, speed=1, opening=1, standing=1, closing=1, room=1):
    return (1, floors, cars, speed, opening, standing, closing, room)


def come(floor, goal):
    return (2, floor, goal)


def run(ticks):
    return (3, ticks)


def car(number):
    return (4, number)


def wait(floor, direction):
    return (5, floor, direction)


def person(who):
    return (6, who)


def guess(floor, direction):
    return (7, floor, direction)


def sums():
    return (8,)


def flat(calls):
    return [number for call in calls for number in call]


def read(told):
    """The pairs (number, list) of what answers gives back; fails if its form is not the told one."""
    pairs = []
    at = 0
    while at < len(told):
        size = told[at]
        part = told[at + 1:at + 1 + size]
        if len(part) != size:
            raise AssertionError(f"cut short: {told[at:]}")
        if size == 1:
            pairs.append((part[0], []))
        else:
            if part[0] < 0 or part[1] == 0 or part[1] != size - 3 or part[-1] != 0:
                raise AssertionError(f"not as told: {part}")
            pairs.append((part[0], part[2:-1]))
        at += 1 + size
    return pairs


def ask(*calls):
    pairs = read(answers(flat(calls)))
    if len(pairs) != len(calls):
        raise AssertionError(f"{len(calls)} calls, {len(pairs)} answers")
    return pairs


def last(*calls):
    return ask(*calls)[-1]


def events_of(answer):
    """A run's or come's events as tuples of five."""
    numbers = answer[1]
    return [tuple(numbers[at:at + 5]) for at in range(0, len(numbers), 5)]


class SeenCar:
    """What the call car tells, by name."""

    def __init__(self, answer):
        count, told = answer
        self.place, self.direction, self.doing, self.yet, pressed, calls = told[:6]
        rest = told[6:]
        self.inside = rest[:count]
        self.pressed = rest[count:count + pressed]
        numbers = rest[count + pressed:]
        if len(numbers) != 2 * calls:
            raise AssertionError(f"not as told: {told}")
        self.calls = [tuple(numbers[at:at + 2]) for at in range(0, len(numbers), 2)]


def seen(number, *calls):
    return SeenCar(last(*calls, car(number)))


def random_plan(chance, most_cars=6):
    return build(
        floors=chance.choice((2, 3, 5, 9, 32)),
        cars=chance.randint(1, most_cars),
        speed=chance.choice((1, 1, 2, 3, 7)),
        opening=chance.choice((1, 1, 2, 5)),
        standing=chance.choice((1, 2, 4)),
        closing=chance.choice((1, 2, 3)),
        room=chance.choice((1, 1, 2, 3, 40)),
    )


def random_come(chance, floors):
    floor = chance.randrange(floors)
    return come(floor, chance.choice([goal for goal in range(floors) if goal != floor]))


def calls_of(floors):
    """Every call (floor, direction) that there is in a house of so many floors."""
    return [(floor, UP) for floor in range(floors - 1)] + [(floor, DOWN) for floor in range(1, floors)]


def no_calls_of(floors):
    """Calls that there are not: each edge by one, and by much."""
    wrong = [(floors - 1, UP), (0, DOWN)]
    for direction in (UP, DOWN):
        wrong.extend([(floors, direction), (floors + 1, direction), (HIGHEST, direction)])
    for floor in (0, 1, floors - 1, floors, HIGHEST):
        wrong.extend([(floor, direction) for direction in (0, 3, 4, HIGHEST)])
    return wrong


def random_goal(chance, floors, call):
    """A floor that somebody who presses the call may want."""
    floor, direction = call
    return chance.randrange(floor + 1, floors) if direction == UP else chance.randrange(floor)
