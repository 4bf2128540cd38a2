"""Digits to a prime, and what is carried when two numbers are added by them."""


def digits_of(n, prime):
    """The digits of n, the last one first; 0 has none."""
    found = []
    rest = n
    while rest > 0:
        found.append(rest % prime)
        rest = rest // prime
    return found


def cross_sum(n, prime):
    return sum(digits_of(n, prime))


def carry_places(a, b, prime):
    """The places at which it's carried when a and b are added, rising."""
    found = []
    place = 0
    carried = 0
    # Behind the longer one's digits nothing is carried: 1 alone is below any prime.
    while a > 0 or b > 0:
        carried = (a % prime + b % prime + carried) // prime
        if carried == 1:
            found.append(place)
        a = a // prime
        b = b // prime
        place += 1
    return found


def carry_count(a, b, prime):
    return len(carry_places(a, b, prime))
