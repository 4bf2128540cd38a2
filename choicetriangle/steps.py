"""Steps of a way, each 0 (left) or 1 (right): where they lead, and their number."""

from choicetriangle.triangle import ways_to


def places_behind(steps):
    """At which place the way stands behind 0 steps, 1 step, and so on to all."""
    places = [0]
    for step in steps:
        places.append(places[-1] + step)
    return places


def rights_of(steps):
    """The numbers of the steps to the right, rising."""
    return [i for i, step in enumerate(steps) if step == 1]


def told_as(steps):
    """The way as one number: 2 to the power of each right step's number, together."""
    found = 0
    for step in reversed(steps):
        found = 2 * found + step
    return found


def steps_told(told, count):
    """So many steps as told by one number; None if it tells of a step beyond them."""
    steps = []
    rest = told
    for i in range(count):
        steps.append(rest % 2)
        rest = rest // 2
    return steps if rest == 0 else None


def number_of(steps):
    """The way's number among all to its place, as those told by lesser numbers come first."""
    found = 0
    place = 0
    for i, step in enumerate(steps):
        if step == 1:
            place += 1
            # All that have their right step of this rank earlier come first.
            found += ways_to(i, place)
    return found


def steps_numbered(count, place, number):
    """The way of so many steps to the place that has that number; there must be one."""
    backwards = []
    rights = place
    rest = number
    for i in range(count - 1, -1, -1):
        lesser = ways_to(i, rights)
        if rest >= lesser:
            backwards.append(1)
            rest -= lesser
            rights -= 1
        else:
            backwards.append(0)
    return list(reversed(backwards))
