"""The calls of "Choices in order": the steps are the things, those to the right are chosen."""

from choicetriangle.forms import NO_SUCH, NO_THING, WRONG, counted
from choicetriangle.steps import number_of, rights_of, steps_numbered, steps_told, told_as
from choicetriangle.triangle import row_of, ways_to

EXCHANGE_BOUND = 10


def told_with_things(steps):
    return [told_as(steps)] + rights_of(steps)


def steps_by_exchanges(count, k, number):
    """The choice of k of so many things that has that number by exchanges; there must be one."""
    backwards = []
    chosen = k
    rest = number
    for i in range(count - 1, -1, -1):
        without = ways_to(i, chosen)
        if rest < without:
            backwards.append(0)
        else:
            backwards.append(1)
            chosen -= 1
            # Those with the last thing run the other way: the last one first.
            rest = ways_to(i, chosen) - 1 - (rest - without)
    return list(reversed(backwards))


def choice(steps, given):
    k = given[0]
    r = given[1]
    if r >= ways_to(len(steps), k):
        return [NO_SUCH]
    return told_with_things(steps_numbered(len(steps), k, r))


def between(steps, given):
    other = steps_told(given[0], len(steps))
    if other is None or sum(other) != sum(steps):
        return [WRONG]
    return [0, number_of(other) - number_of(steps)]


def meet(steps, given):
    other = steps_told(given[0], len(steps))
    if other is None:
        return [WRONG]
    together = [mine + its for mine, its in zip(steps, other)]
    return [together.count(2), together.count(1)]


def sharing(steps, given):
    j = given[0]
    chosen = sum(steps)
    if j > chosen:
        return [WRONG]
    return [ways_to(chosen, j) * ways_to(len(steps) - chosen, chosen - j)]


def having(steps, given):
    if given[0] >= len(steps):
        return [NO_THING]
    without = ways_to(len(steps) - 1, sum(steps))
    return [ways_to(len(steps), sum(steps)) - without, without]


def all_choices(steps, given):
    return [sum(row_of(len(steps)))]


def rights(steps, given):
    return counted(rights_of(steps))


def gray(steps, given):
    k = given[0]
    r = given[1]
    if len(steps) > EXCHANGE_BOUND:
        return [WRONG]
    if r >= ways_to(len(steps), k):
        return [NO_SUCH]
    return told_with_things(steps_by_exchanges(len(steps), k, r))


def thingsum(steps, given):
    return [sum(rights_of(steps))]


def waysof(steps, given):
    if len(steps) > EXCHANGE_BOUND:
        return [WRONG]
    # Of each choice how many things it has, and their sum: without the next thing, then with it.
    choices = [(0, 0)]
    for i in range(len(steps)):
        choices = choices + [(chosen + 1, together + i) for chosen, together in choices]
    return [choices.count((sum(steps), given[0]))]


# Calls 86 to 95, in the interface's order.
INORDER = (choice, between, meet, sharing, having, all_choices, rights, gray, thingsum, waysof)
