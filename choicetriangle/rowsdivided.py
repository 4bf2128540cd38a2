"""The calls of "Rows divided": what divides the row in which the way stands, and what that divides."""

from choicetriangle.divisors import divisor_of_two, greatest_divisor, least_multiple
from choicetriangle.forms import MILLION, NONE_THERE, NO_SUCH, WRONG, counted, in_three, in_two, yes_or_no
from choicetriangle.primes import primes_up_to
from choicetriangle.triangle import row_of, ways_to

LAST_ROW = 40
FIRST_WITH_OTHERS = 2
LEAST_SOUGHT = 2


def greatest_of(row):
    """The greatest number that divides all of the row but its two ends; it must have others."""
    return greatest_divisor(row_of(row)[1:-1])


def isnt_inside(row, k):
    return k < 1 or k >= row


def three_around(row, k):
    return [ways_to(row - 1, k - 1), ways_to(row, k + 1), ways_to(row + 1, k)]


def others_around(row, k):
    return [ways_to(row - 1, k), ways_to(row + 1, k + 1), ways_to(row, k - 1)]


def multiplied(numbers):
    found = 1
    for number in numbers:
        found = found * number
    return found


def primes_dividing(row, k):
    """The primes, up to the row's number, that divide what's at place k, rising."""
    there = ways_to(row, k)
    return [q for q in primes_up_to(row) if there % q == 0]


def shares_just(numbers, k, wanted):
    """Whether what's at place k shares just that with one behind it, but for the last one."""
    return any([divisor_of_two(numbers[k], behind) == wanted for behind in numbers[k + 1:-1]])


def at(row, given):
    if given[0] > row:
        return [WRONG]
    return in_two(ways_to(row, given[0]))


def greatest(row, given):
    if row < FIRST_WITH_OTHERS:
        return [NO_SUCH]
    return [greatest_of(row)]


def least(row, given):
    return in_three(least_multiple(row_of(row)))


def upto(row, given):
    return in_three(least_multiple(list(range(1, row + 2))))


def shared(row, given):
    if max(given) > row:
        return [WRONG]
    return in_two(divisor_of_two(ways_to(row, given[0]), ways_to(row, given[1])))


def star(row, given):
    k = given[0]
    if isnt_inside(row, k):
        return [WRONG]
    return [greatest_divisor(three_around(row, k)), greatest_divisor(others_around(row, k))]


def starproduct(row, given):
    k = given[0]
    if isnt_inside(row, k):
        return [WRONG]
    return [yes_or_no(multiplied(three_around(row, k)) == multiplied(others_around(row, k)))]


def hermite(row, given):
    k = given[0]
    if k == 0 or k > row:
        return [WRONG]
    part = row // divisor_of_two(row, k)
    return [part] + in_two(ways_to(row, k) // part)


def dividing(row, given):
    if given[0] > row:
        return [WRONG]
    return counted(primes_dividing(row, given[0]))


def great(row, given):
    k = given[0]
    if k > row:
        return [WRONG]
    found = primes_dividing(row, k)
    if len(found) == 0:
        return [NO_SUCH]
    return [found[-1], yes_or_no(found[-1] > k)]


def places(row, given):
    """Asked of rows 0 to 40, in whichever row the way stands."""
    v = given[0]
    if v < LEAST_SOUGHT or v > MILLION:
        return [WRONG]
    found = 0
    told = []
    for n in range(LAST_ROW + 1):
        for k in range(n + 1):
            if ways_to(n, k) == v:
                found += 1
                told.extend([n, k])
    return [found] + told


def even(row, given):
    numbers = row_of(row)
    return counted([k for k in range(row - 1) if numbers[k] + numbers[k + 2] == 2 * numbers[k + 1]])


def fewest(row, given):
    if row < FIRST_WITH_OTHERS:
        return [NO_SUCH]
    numbers = row_of(row)
    wanted = greatest_of(row)
    for k in range(1, row):
        if shares_just(numbers, k, wanted):
            return [k]
    return [NONE_THERE]


def sum_to(row, given):
    if given[0] > row:
        return [WRONG]
    return in_three(sum(row_of(row)[:given[0] + 1]))


def squares(row, given):
    return in_three(sum([number * number for number in row_of(row)]))


def stick(row, given):
    if given[0] > row:
        return [WRONG]
    return in_two(sum([ways_to(n, given[0]) for n in range(row + 1)]))


# Calls 70 to 85, in the interface's order; the one ahead of squares is sum.
ROWSDIVIDED = (
    at, greatest, least, upto, shared, star, starproduct, hermite,
    dividing, great, places, even, fewest, sum_to, squares, stick,
)
