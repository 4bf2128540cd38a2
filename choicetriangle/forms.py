"""How answers are told: the refusals' numbers, lists with their count, great numbers and huge ones."""

NO_THING = -2
NONE_THERE = -6
NOT_BEGUN = -11
WRONG = -22
FULL = -28
NO_SUCH = -33

MILLION = 1000000
THOUSAND_MILLIONS = 1000000000


def counted(found):
    return [len(found)] + found


def yes_or_no(holds):
    # An answer holds whole numbers alone, so True itself is never told.
    return 1 if holds else 0


def in_two(number):
    """A great number: how many thousand millions, then what's beyond these."""
    return [number // THOUSAND_MILLIONS, number % THOUSAND_MILLIONS]


def in_three(number):
    """A huge number: how many millions of millions of millions, then what's beyond these, in two."""
    # A thousand millions of thousand millions are a million of millions of millions.
    return in_two(number // THOUSAND_MILLIONS) + [number % THOUSAND_MILLIONS]
