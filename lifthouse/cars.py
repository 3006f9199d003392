"""One car: where it is, what it does, and what a tick makes of it.

Who enters and leaves is left to the house, so that a car can also be
followed ahead as if nobody entered or left.
"""

NONE = 0
UP = 1
DOWN = 2

CLOSED = 0
MOVING = 1
OPENING = 2
OPENED = 3
CLOSING = 4

# What a tick of a car brought about.
NOTHING = 0
DOORS_BEGIN = 1
DOORS_STAND = 2
DOORS_SHUT = 3

# More ticks than any run or reckoning goes through.
FOREVER = 1000000


class Plan:
    """The numbers of a house, which never change."""

    def __init__(self, numbers):
        self.floors = numbers[0]
        self.car_count = numbers[1]
        self.speed = numbers[2]
        self.opening = numbers[3]
        self.standing = numbers[4]
        self.closing = numbers[5]
        self.room = numbers[6]


class Car:
    """A car; its place is told in ticks from floor 0, its calls are pairs of floor and direction."""

    def __init__(self):
        self.place = 0
        self.direction = NONE
        self.doing = CLOSED
        self.yet = 0
        self.inside = []
        self.pressed = []
        self.calls = []


def twin_of(car):
    twin = Car()
    twin.place = car.place
    twin.direction = car.direction
    twin.doing = car.doing
    twin.yet = car.yet
    twin.inside = list(car.inside)
    twin.pressed = list(car.pressed)
    twin.calls = list(car.calls)
    return twin


def opposite(direction):
    return DOWN if direction == UP else UP


def is_full(car, plan):
    return len(car.inside) >= plan.room


def has_stops(car):
    return len(car.pressed) + len(car.calls) > 0


def stops_of(car):
    return car.pressed + [call[0] for call in car.calls]


def has_stop_beyond(car, floor, direction):
    if direction == UP:
        return max(stops_of(car), default=floor) > floor
    return min(stops_of(car), default=floor) < floor


def opens_at(car, plan, floor):
    if floor in car.pressed:
        return True
    if is_full(car, plan):
        return False
    if car.direction == NONE:
        return (floor, UP) in car.calls or (floor, DOWN) in car.calls
    if (floor, car.direction) in car.calls:
        return True
    if has_stop_beyond(car, floor, car.direction):
        return False
    return (floor, opposite(car.direction)) in car.calls


def served_on_its_way(car, floor):
    ahead = car.direction
    back = opposite(ahead)
    if (floor, ahead) in car.calls or has_stop_beyond(car, floor, ahead):
        return ahead
    if (floor, back) in car.calls or has_stop_beyond(car, floor, back):
        return back
    return NONE


def served_at_rest(car, floor):
    if (floor, UP) in car.calls:
        return UP
    if (floor, DOWN) in car.calls:
        return DOWN
    if has_stop_beyond(car, floor, UP):
        return UP
    if has_stop_beyond(car, floor, DOWN):
        return DOWN
    return NONE


def begin_opening(car, plan, floor):
    if car.direction == NONE:
        car.direction = served_at_rest(car, floor)
    else:
        car.direction = served_on_its_way(car, floor)
    taken = (floor, car.direction)
    car.pressed = [other for other in car.pressed if other != floor]
    car.calls = [call for call in car.calls if call != taken]
    car.doing = OPENING
    car.yet = plan.opening


def towards_nearest(car, floor):
    # The floor itself is no stop here: a car with room would have stopped for it,
    # and a full one has a pressed floor elsewhere that gives it its way.
    nearest = min(stops_of(car), key=lambda stop: (abs(stop - floor), -stop))
    return UP if nearest > floor else DOWN


def way_on(car, floor):
    if car.direction != NONE:
        if has_stop_beyond(car, floor, car.direction):
            return car.direction
        if has_stop_beyond(car, floor, opposite(car.direction)):
            return opposite(car.direction)
    return towards_nearest(car, floor)


def go_on(car, ticks):
    car.doing = MOVING
    if car.direction == UP:
        car.place += ticks
    else:
        car.place -= ticks


def tick_closed(car, plan):
    if car.place % plan.speed != 0:
        go_on(car, 1)
        return NOTHING
    floor = car.place // plan.speed
    if not has_stops(car):
        car.doing = CLOSED
        car.direction = NONE
        return NOTHING
    if opens_at(car, plan, floor):
        begin_opening(car, plan, floor)
        return DOORS_BEGIN
    car.direction = way_on(car, floor)
    go_on(car, 1)
    return NOTHING


def tick_doors(car, plan):
    car.yet -= 1
    if car.yet > 0:
        return NOTHING
    if car.doing == OPENING:
        car.doing = OPENED
        car.yet = plan.standing
        return DOORS_STAND
    if car.doing == OPENED:
        car.doing = CLOSING
        car.yet = plan.closing
        return NOTHING
    car.doing = CLOSED
    return DOORS_SHUT


def tick_car(car, plan):
    """Let one tick go by for the car, and tell what came about."""
    if car.doing == CLOSED or car.doing == MOVING:
        return tick_closed(car, plan)
    return tick_doors(car, plan)


def quiet_ticks(car, plan):
    """How many ticks go by before the car has something to decide or its doors do something else."""
    if car.doing != CLOSED and car.doing != MOVING:
        return car.yet - 1
    beyond = car.place % plan.speed
    if beyond != 0:
        return plan.speed - beyond if car.direction == UP else beyond
    if car.doing == CLOSED and car.direction == NONE and not has_stops(car):
        return FOREVER
    return 0


def pass_quietly(car, plan, ticks):
    """Let so many ticks go by at once, no more than are quiet."""
    if car.doing != CLOSED and car.doing != MOVING:
        car.yet -= ticks
    elif car.place % plan.speed != 0:
        go_on(car, ticks)
