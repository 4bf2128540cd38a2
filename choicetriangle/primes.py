"""Primes below a hundred, and how often they divide a number."""

PRIME_BOUND = 100


def is_prime(n):
    """Whether n is a prime below 100."""
    # The bound comes first: n may be far too great to try all divisors.
    if n < 2 or n >= PRIME_BOUND:
        return False
    return all([n % divisor > 0 for divisor in range(2, n)])


def primes_up_to(n):
    """The primes up to n, rising; n is at most 100."""
    return [q for q in range(2, n + 1) if is_prime(q)]


def often_in(n, prime):
    """How often the prime divides n, again and again; n is 1 or more."""
    rest = n
    found = 0
    while rest % prime == 0:
        rest = rest // prime
        found += 1
    return found


def prime_parts(n):
    """Each prime that divides n, rising, with how often; n is 2 to 100."""
    return [(q, often_in(n, q)) for q in primes_up_to(n) if n % q == 0]
