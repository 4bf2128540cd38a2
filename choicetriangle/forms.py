"""How answers are told: the refusals' numbers, and lists with their count."""

NOT_BEGUN = -11
WRONG = -22
FULL = -28
NO_STEPS = -6
NO_SUCH = -33

MILLION = 1000000


def counted(found):
    return [len(found)] + found


def yes_or_no(holds):
    # An answer holds whole numbers alone, so True itself is never told.
    return 1 if holds else 0
