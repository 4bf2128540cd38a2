"""The calls of "Carried over": digits to the prime, and what is carried."""

from choicetriangle.digits import carry_count, carry_places, cross_sum, digits_of
from choicetriangle.forms import MILLION, NO_SUCH, WRONG, counted
from choicetriangle.primes import often_in

LIKE_BOUND = 1000
LIKE_REACH = 2000
PAIRS_BOUND = 60


def pair_carries(n, prime):
    """How often it's carried when a and n less a are added, of each a from 0 to n."""
    return [carry_count(a, n - a, prime) for a in range(n + 1)]


def digits(prime, given):
    if given[0] > MILLION:
        return [WRONG]
    return counted(digits_of(given[0], prime))


def cross(prime, given):
    if given[0] > MILLION:
        return [WRONG]
    return [cross_sum(given[0], prime)]


def carries(prime, given):
    if max(given) > MILLION:
        return [WRONG]
    return [carry_count(given[0], given[1], prime)]


def carriedat(prime, given):
    if max(given) > MILLION:
        return [WRONG]
    return counted(carry_places(given[0], given[1], prime))


def three(prime, given):
    if max(given) > MILLION:
        return [WRONG]
    a = given[0]
    b = given[1]
    c = given[2]
    first_two = carry_count(a, b, prime)
    return [first_two + carry_count(a + b, c, prime), first_two, carry_count(b, c, prime)]


def divides(prime, given):
    if given[0] > MILLION or given[0] == 0:
        return [WRONG]
    return [often_in(given[0], prime)]


def onemore(prime, given):
    if given[0] >= MILLION:
        return [WRONG]
    return [cross_sum(given[0] + 1, prime), carry_count(given[0], 1, prime)]


def pairswith(prime, given):
    n = given[0]
    if n > PAIRS_BOUND:
        return [WRONG]
    return counted([a for a, found in enumerate(pair_carries(n, prime)) if found == given[1]])


def mostcarries(prime, given):
    if given[0] > PAIRS_BOUND:
        return [WRONG]
    return [max(pair_carries(given[0], prime))]


def like(prime, given):
    n = given[0]
    if n > LIKE_BOUND:
        return [WRONG]
    wanted = cross_sum(n, prime)
    for other in range(n + 1, n + LIKE_REACH + 1):
        if cross_sum(other, prime) == wanted:
            return [other]
    return [NO_SUCH]


def fromdigits(prime, given):
    if max(given) >= prime:
        return [WRONG]
    found = 0
    for digit in reversed(given):
        found = found * prime + digit
    return [found]


def without(prime, given):
    if max(given) > MILLION:
        return [WRONG]
    a = given[0]
    b = given[1]
    if a < b:
        return [NO_SUCH]
    return [a - b, carry_count(a - b, b, prime)]


# Calls 21 to 32, in the interface's order.
CARRIED = (
    digits, cross, carries, carriedat, three, divides,
    onemore, pairswith, mostcarries, like, fromdigits, without,
)
