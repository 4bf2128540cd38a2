"""The calls of "Choices by a prime": rows of the triangle, and how often the prime divides them."""

from choicetriangle.digits import digits_of
from choicetriangle.forms import MILLION, WRONG, counted
from choicetriangle.triangle import often_at, ways_to

ROW_BOUND = 60
THOUSAND_MILLIONS = 1000000000


def spared_of(n, prime):
    """How many places of row n hold a number that the prime doesn't divide."""
    found = 1
    # Nothing is carried just where each digit of the place is at most the row's.
    for digit in digits_of(n, prime):
        found = found * (digit + 1)
    return found


def choose(prime, given):
    n = given[0]
    k = given[1]
    if n > ROW_BOUND or k > n:
        return [WRONG]
    ways = ways_to(n, k)
    return [ways // THOUSAND_MILLIONS, ways % THOUSAND_MILLIONS]


def times(prime, given):
    n = given[0]
    k = given[1]
    if n > MILLION or k > n:
        return [WRONG]
    return [often_at(n, k, prime)]


def rowoften(prime, given):
    n = given[0]
    if n > ROW_BOUND:
        return [WRONG]
    return counted([often_at(n, k, prime) for k in range(n + 1)])


def spared(prime, given):
    n = given[0]
    if n > MILLION:
        return [WRONG]
    found = spared_of(n, prime)
    return [found, n + 1 - found]


# Calls 44 to 47, in the interface's order.
BYPRIME = (choose, times, rowoften, spared)
