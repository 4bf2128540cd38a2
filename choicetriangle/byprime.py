"""The calls of "Choices by a prime": rows of the triangle, and how often the prime divides them."""

from choicetriangle.forms import MILLION, NO_SUCH, WRONG, counted, in_two, yes_or_no
from choicetriangle.triangle import often_at, spared_of, ways_to

TOLD_BOUND = 60
ROW_BOUND = 200
ROWS_BOUND = 100
MIDDLE_BOUND = 500000
FIRST_WITH_OTHERS = 2


def often_in_row(n, prime):
    """At each place of row n how often the prime divides what's there."""
    return [often_at(n, k, prime) for k in range(n + 1)]


def divides_whole(n, prime):
    """Whether the prime divides all of row n but both ends."""
    # It spares both ends always, so it spares nothing else.
    return spared_of(n, prime) <= 2


def divides_none(n, prime):
    return spared_of(n, prime) == n + 1


def choose(prime, given):
    n = given[0]
    k = given[1]
    if n > TOLD_BOUND or k > n:
        return [WRONG]
    return in_two(ways_to(n, k))


def times(prime, given):
    n = given[0]
    k = given[1]
    if n > MILLION or k > n:
        return [WRONG]
    return [often_at(n, k, prime)]


def rowoften(prime, given):
    if given[0] > TOLD_BOUND:
        return [WRONG]
    return counted(often_in_row(given[0], prime))


def spared(prime, given):
    n = given[0]
    if n > MILLION:
        return [WRONG]
    found = spared_of(n, prime)
    return [found, n + 1 - found]


def whole(prime, given):
    if given[0] > ROW_BOUND:
        return [WRONG]
    return [yes_or_no(divides_whole(given[0], prime))]


def none(prime, given):
    if given[0] > ROW_BOUND:
        return [WRONG]
    return [yes_or_no(divides_none(given[0], prime))]


def most(prime, given):
    if given[0] > ROW_BOUND:
        return [WRONG]
    return [max(often_in_row(given[0], prime))]


def first(prime, given):
    if given[0] > ROW_BOUND:
        return [WRONG]
    for k, often in enumerate(often_in_row(given[0], prime)):
        if often > 0:
            return [k, often]
    return [NO_SUCH]


def rows(prime, given):
    if given[0] > ROWS_BOUND:
        return [WRONG]
    return counted([n for n in range(FIRST_WITH_OTHERS, given[0] + 1) if divides_whole(n, prime)])


def bare(prime, given):
    if given[0] > ROWS_BOUND:
        return [WRONG]
    return counted([n for n in range(given[0] + 1) if divides_none(n, prime)])


def middle(prime, given):
    n = given[0]
    if n > MIDDLE_BOUND:
        return [WRONG]
    return [often_at(2 * n, n, prime)]


def below(prime, given):
    if given[0] > ROWS_BOUND:
        return [WRONG]
    return [sum([spared_of(n, prime) for n in range(given[0] + 1)])]


def just_so_often(prime, given):
    if given[0] > ROW_BOUND:
        return [WRONG]
    return [often_in_row(given[0], prime).count(given[1])]


# Calls 44 to 56, in the interface's order; the last one is with.
BYPRIME = (
    choose, times, rowoften, spared, whole, none, most, first,
    rows, bare, middle, below, just_so_often,
)
