"""The calls that ask where the way stands and change nothing: here to told."""

from choicetriangle.forms import WRONG, counted, yes_or_no
from choicetriangle.moves import MOST_STEPS
from choicetriangle.steps import number_of, places_behind, steps_told, told_as
from choicetriangle.triangle import often_at, ways_avoiding, ways_to


def ways_here(way):
    return ways_to(len(way.steps), sum(way.steps))


def divided_rows(way):
    """The rows in which the prime divides what's there where the way stands."""
    places = places_behind(way.steps)
    return [row for row, place in enumerate(places) if often_at(row, place, way.prime) > 0]


def here(way, given):
    return [len(way.steps), sum(way.steps), ways_here(way)]


def number(way, given):
    return [number_of(way.steps), ways_here(way)]


def often(way, given):
    return [often_at(len(way.steps), sum(way.steps), way.prime)]


def left(way, given):
    return [ways_here(way) % way.prime]


def divided(way, given):
    return counted(divided_rows(way))


def avoid(way, given):
    row = given[0]
    place = given[1]
    if row > MOST_STEPS or place > row:
        return [WRONG]
    return [ways_avoiding(row, place, way.prime), ways_to(row, place)]


def clean(way, given):
    avoiding = ways_avoiding(len(way.steps), sum(way.steps), way.prime)
    return [yes_or_no(len(divided_rows(way)) == 0), avoiding]


def turnsto(way, given):
    other = steps_told(given[0], len(way.steps))
    if other is None or sum(other) != sum(way.steps):
        return [WRONG]
    # A turn moves the way by one place in just one row, and some turn always moves it nearer.
    return [sum([abs(mine - its) for mine, its in zip(places_behind(way.steps), places_behind(other))])]


def together(way, given):
    other = steps_told(given[0], len(way.steps))
    if other is None:
        return [WRONG]
    mine = places_behind(way.steps)
    its = places_behind(other)
    return counted([row for row, place in enumerate(mine) if its[row] == place])


def behind(way, given):
    row = given[0]
    if row > len(way.steps):
        return [WRONG]
    place = sum(way.steps[:row])
    return [place, ways_to(row, place) % way.prime]


def best(way, given):
    row = len(way.steps) + 1
    place = sum(way.steps)
    to_left = often_at(row, place, way.prime)
    to_right = often_at(row, place + 1, way.prime)
    if to_right < to_left:
        return [1, to_right]
    return [0, to_left]


def told(way, given):
    return [way.prime, len(way.steps), told_as(way.steps)]


# Calls 9 to 20, in the interface's order.
VIEWS = (here, number, often, left, divided, avoid, clean, turnsto, together, behind, best, told)
