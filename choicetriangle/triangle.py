"""The triangle of choices: what's at a place, how often a prime divides it, and what that leaves."""

from choicetriangle.digits import carry_count, digits_of


def ways_to(row, place):
    """What's at that place of the row; 0 where the row has no such place."""
    if place > row:
        return 0
    found = 1
    for i in range(1, place + 1):
        # Never a remainder: this is place i of row (row - place + i).
        found = found * (row - place + i) // i
    return found


def row_of(row):
    """What's at each place of the row."""
    return [ways_to(row, place) for place in range(row + 1)]


def often_at(row, place, prime):
    """How often the prime divides what's at that place of the row."""
    # Just as often as it's carried; so the number itself, which may be huge, isn't needed.
    return carry_count(place, row - place, prime)


def spared_of(row, prime):
    """How many places of the row hold a number that the prime doesn't divide."""
    found = 1
    # Nothing is carried just where each digit of the place is at most the row's.
    for digit in digits_of(row, prime):
        found = found * (digit + 1)
    return found


def left_at(row, place, prime):
    """What the prime leaves of what's at that place of the row; 0 where the row has no such place."""
    found = 1
    # What's left is that of each two digits, multiplied; beyond the row some digit of the place is greater.
    # Where the place has no more digits 1 is left of each.
    while place > 0:
        found = found * ways_to(row % prime, place % prime) % prime
        row = row // prime
        place = place // prime
    return found


def ways_avoiding(row, place, prime):
    """How many ways to that place of the row avoid what the prime divides."""
    counts = [1]
    for r in range(1, row + 1):
        counts = avoiding_row(r, counts, prime)
    return counts[place]


def avoiding_row(row, ahead, prime):
    """Of each place of the row how many ways to it avoid; ahead is the same of the row ahead."""
    from_right = [0] + ahead
    from_left = ahead + [0]
    counts = []
    for place in range(row + 1):
        if often_at(row, place, prime) > 0:
            counts.append(0)
        else:
            counts.append(from_right[place] + from_left[place])
    return counts
