"""One person: from where to where, and when they came, entered a car and left it."""

WAITING = 0
INSIDE = 1
LEFT = 2

NOT_YET = 0


class Person:
    """A person; each time is kept as it is told, with one added, as 0 stands for not yet."""

    def __init__(self, origin, goal, now):
        self.origin = origin
        self.goal = goal
        self.came = now + 1
        self.entered = NOT_YET
        self.left = NOT_YET


def note_entering(person, now):
    person.entered = now + 1


def note_leaving(person, now):
    person.left = now + 1


def state_of(person):
    if person.entered == NOT_YET:
        return WAITING
    return INSIDE if person.left == NOT_YET else LEFT


def ticks_waited(person, now):
    end = now + 1 if person.entered == NOT_YET else person.entered
    return end - person.came


def ticks_inside(person, now):
    if person.entered == NOT_YET:
        return 0
    end = now + 1 if person.left == NOT_YET else person.left
    return end - person.entered
