"""After how many ticks each car would come for a call, and which would come first."""

from lifthouse.cars import is_full, pass_quietly, quiet_ticks, tick_car, twin_of

LONGEST = 20000


def reckoned_ticks(car, plan, call):
    """After how many ticks the car, given the call, would begin to serve it, if nobody entered or left."""
    twin = twin_of(car)
    twin.calls.append(call)
    ticks = 0
    while ticks < LONGEST:
        # Nobody leaves here, so a full car stays full, and full it stops at pressed floors alone.
        if is_full(twin, plan) and len(twin.pressed) == 0:
            return LONGEST
        quiet = quiet_ticks(twin, plan)
        pass_quietly(twin, plan, quiet)
        tick_car(twin, plan)
        ticks += quiet + 1
        if call not in twin.calls:
            return min(ticks, LONGEST)
    return LONGEST


def reckoned_of_all(cars, plan, call):
    return [reckoned_ticks(car, plan, call) for car in cars]


def first_of(reckoned):
    """The number of the car that would come first, of several the lowest."""
    return reckoned.index(min(reckoned))
