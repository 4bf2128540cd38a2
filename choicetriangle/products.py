"""The calls of "Products of all": all numbers from 1 up to one, multiplied."""

from choicetriangle.forms import MILLION, NO_SUCH, WRONG, counted, yes_or_no
from choicetriangle.primes import often_in, prime_parts, primes_up_to

PRODUCT_BOUND = 20
LEAST_BOUND = 600
LEAST_REACH = 700
SMALL_BOUND = 60
BASE_LEAST = 2
BASE_BOUND = 100


def product_of(n):
    found = 1
    for factor in range(2, n + 1):
        found = found * factor
    return found


def often_in_product(n, prime):
    """How often the prime divides the product of n."""
    found = 0
    rest = n // prime
    while rest > 0:
        # So many factors are divided once more.
        found += rest
        rest = rest // prime
    return found


def left_of_product(n, prime):
    """The product of n without the prime, divided by it: what that leaves."""
    found = 1
    upper = n
    while upper > 0:
        found = found * product_of(upper % prime) % prime
        # All factors from one multiple of the prime to the next leave its product less 1,
        # multiplied; so only whether there's an odd number of such runs matters.
        if upper // prime % 2 == 1:
            found = prime - found
        # The multiples themselves, each divided by the prime, are a shorter product.
        upper = upper // prime
    return found


def product(prime, given):
    if given[0] > PRODUCT_BOUND:
        return [WRONG]
    return [product_of(given[0])]


def productoften(prime, given):
    if given[0] > MILLION:
        return [WRONG]
    return [often_in_product(given[0], prime)]


def rest_of(prime, given):
    if given[0] > MILLION:
        return [WRONG]
    return [left_of_product(given[0], prime)]


def leastof(prime, given):
    wanted = given[0]
    if wanted > LEAST_BOUND:
        return [WRONG]
    n = 0
    found = 0
    while found < wanted:
        n += 1
        if n == LEAST_REACH:
            return [NO_SUCH]
        found += often_in(n, prime)
    return [n, found]


def noughts(prime, given):
    base = given[0]
    n = given[1]
    if base < BASE_LEAST or base > BASE_BOUND or n > MILLION:
        return [WRONG]
    return [min([often_in_product(n, q) // power for q, power in prime_parts(base)])]


def span(prime, given):
    first = given[0]
    last = given[1]
    if last > MILLION or first == 0 or last < first:
        return [WRONG]
    return [often_in_product(last, prime) - often_in_product(first - 1, prime)]


def gaps(prime, given):
    n = given[0]
    if n > SMALL_BOUND:
        return [WRONG]
    # Greater numbers' products are divided as often as that of n, or oftener.
    met = [often_in_product(m, prime) for m in range(n + 1)]
    return counted([k for k in range(met[n]) if k not in met])


def notsquare(prime, given):
    n = given[0]
    if n > SMALL_BOUND:
        return [WRONG]
    return counted([q for q in primes_up_to(n) if often_in_product(n, q) % 2 == 1])


def twice(prime, given):
    n = given[0]
    m = given[1]
    if n > MILLION or m > SMALL_BOUND:
        return [WRONG]
    # Only primes up to m divide the product of m.
    fits = [2 * often_in_product(m, q) <= often_in_product(n, q) for q in primes_up_to(m)]
    return [yes_or_no(all(fits))]


def parts(prime, given):
    base = given[0]
    if base < BASE_LEAST or base > BASE_BOUND:
        return [WRONG]
    found = prime_parts(base)
    answer = [len(found)]
    for q, power in found:
        answer.extend([q, power])
    return answer


def jumps(prime, given):
    n = given[0]
    if n > MILLION or n == 0:
        return [WRONG]
    fewer = often_in_product(n - 1, prime)
    whole = often_in_product(n, prime)
    return [whole - fewer, fewer, whole]


# Calls 33 to 43, in the interface's order.
PRODUCTS = (
    product, productoften, rest_of, leastof, noughts, span,
    gaps, notsquare, twice, parts, jumps,
)
