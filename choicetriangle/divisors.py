"""What several numbers share, and what they all divide; each of them is 1 or more."""


def divisor_of_two(a, b):
    """The greatest number that divides both; b may be 0, which all numbers divide."""
    while b > 0:
        rest = a % b
        a = b
        b = rest
    return a


def greatest_divisor(numbers):
    """The greatest number that divides them all."""
    found = 0
    for number in numbers:
        found = divisor_of_two(number, found)
    return found


def least_multiple(numbers):
    """The least number, from 1 on, that they all divide."""
    found = 1
    for number in numbers:
        found = found // divisor_of_two(number, found) * number
    return found
