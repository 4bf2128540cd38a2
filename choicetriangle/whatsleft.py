"""The calls of "What's left": what the prime leaves of the triangle's numbers."""

from choicetriangle.digits import cross_sum
from choicetriangle.forms import MILLION, NO_SUCH, WRONG, counted
from choicetriangle.primes import is_prime
from choicetriangle.triangle import left_at, spared_of

TOLD_BOUND = 60
COUNTS_BOUND = 100
ROW_BOUND = 200
NEXT_BOUND = 500
UNDER_BOUND = 1000
JOINED_BOUND = 1000
TWO = 2


def left_in_row(n, prime):
    """What's left at each place of row n."""
    return [left_at(n, k, prime) for k in range(n + 1)]


def leftat(prime, given):
    n = given[0]
    k = given[1]
    if n > MILLION or k > n:
        return [WRONG]
    return [left_at(n, k, prime)]


def rowleft(prime, given):
    if given[0] > TOLD_BOUND:
        return [WRONG]
    return counted(left_in_row(given[0], prime))


def counts(prime, given):
    if given[0] > COUNTS_BOUND:
        return [WRONG]
    lefts = left_in_row(given[0], prime)
    return [prime] + [lefts.count(left) for left in range(prime)]


def nextplace(prime, given):
    n = given[0]
    k = given[1]
    if n > NEXT_BOUND or k > n:
        return [WRONG]
    for place in range(k + 1, n + 1):
        left = left_at(n, place, prime)
        if left > 0:
            return [place, left]
    return [NO_SUCH]


def odd(prime, given):
    return leftat(TWO, given)


def odds(prime, given):
    n = given[0]
    if n > MILLION:
        return [WRONG]
    return [spared_of(n, TWO), cross_sum(n, TWO)]


def joined(prime, given):
    a = given[0]
    b = given[1]
    c = given[2]
    d = given[3]
    if a > JOINED_BOUND or a < b or c >= prime or d >= prime:
        return [WRONG]
    left = left_at(a * prime + c, b * prime + d, prime)
    return [left, left_at(a, b, prime), left_at(c, d, prime)]


def sumleft(prime, given):
    if given[0] > ROW_BOUND:
        return [WRONG]
    return [sum(left_in_row(given[0], prime)) % prime]


def turnsleft(prime, given):
    if given[0] > ROW_BOUND:
        return [WRONG]
    lefts = left_in_row(given[0], prime)
    return [(sum(lefts[0::2]) - sum(lefts[1::2])) % prime]


def same(prime, given):
    if max(given) > TOLD_BOUND:
        return [WRONG]
    alike = 0
    # The places that both rows have are just those at which both lists do.
    for one, other in zip(left_in_row(given[0], prime), left_in_row(given[1], prime)):
        if one == other:
            alike += 1
    return [alike]


def by(prime, given):
    n = given[0]
    q = given[1]
    if n > ROW_BOUND or not is_prime(q):
        return [WRONG]
    return [spared_of(n, q)]


def which(prime, given):
    n = given[0]
    r = given[1]
    if n > TOLD_BOUND or r >= prime:
        return [WRONG]
    return counted([k for k, left in enumerate(left_in_row(n, prime)) if left == r])


def under(prime, given):
    n = given[0]
    k = given[1]
    if n > UNDER_BOUND or k > n:
        return [WRONG]
    return [left_at(n + 1, k, prime), left_at(n + 1, k + 1, prime), left_at(n + 2, k + 1, prime)]


# Calls 57 to 69, in the interface's order.
WHATSLEFT = (
    leftat, rowleft, counts, nextplace, odd, odds, joined,
    sumleft, turnsleft, same, by, which, under,
)
