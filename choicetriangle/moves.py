"""The way, and the calls that change it: begin, prime, down, up, turn, mirror, go, next, back."""

from choicetriangle.forms import FULL, NONE_THERE, NO_SUCH, WRONG, counted
from choicetriangle.primes import is_prime
from choicetriangle.steps import number_of, rights_of, steps_numbered
from choicetriangle.triangle import ways_to

MOST_STEPS = 24


class Way:
    """A prime, 0 before a begin, and the steps, each 0 (left) or 1 (right)."""

    def __init__(self):
        self.prime = 0
        self.steps = []


def standing(way):
    return [len(way.steps), sum(way.steps)]


def begin(way, given):
    if not is_prime(given[0]):
        return [WRONG]
    way.prime = given[0]
    way.steps = []
    return [way.prime]


def change_prime(way, given):
    if not is_prime(given[0]):
        return [WRONG]
    before = way.prime
    way.prime = given[0]
    return [before]


def down(way, given):
    if given[0] > 1:
        return [WRONG]
    if len(way.steps) == MOST_STEPS:
        return [FULL]
    way.steps.append(given[0])
    return standing(way)


def up(way, given):
    if len(way.steps) == 0:
        return [NONE_THERE]
    way.steps.pop()
    return standing(way)


def turn(way, given):
    i = given[0]
    if i + 1 >= len(way.steps) or way.steps[i] == way.steps[i + 1]:
        return [NO_SUCH]
    way.steps[i] = 1 - way.steps[i]
    way.steps[i + 1] = 1 - way.steps[i + 1]
    return [number_of(way.steps)]


def mirror(way, given):
    way.steps = [1 - step for step in way.steps]
    return [sum(way.steps), number_of(way.steps)]


def go(way, given):
    place = given[0]
    number = given[1]
    count = len(way.steps)
    # To a place that the row doesn't have no way leads, so every number is too great.
    if number >= ways_to(count, place):
        return [NO_SUCH]
    way.steps = steps_numbered(count, place, number)
    return counted(rights_of(way.steps))


def go_on(way, given):
    return go(way, [sum(way.steps), number_of(way.steps) + 1])


def go_back(way, given):
    number = number_of(way.steps)
    if number == 0:
        return [NO_SUCH]
    return go(way, [sum(way.steps), number - 1])


# Calls 0 to 8, in the interface's order.
MOVES = (begin, change_prime, down, up, turn, mirror, go, go_on, go_back)
