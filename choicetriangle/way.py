"""A list of calls on one new way, answered one behind another."""

from choicetriangle.byprime import BYPRIME
from choicetriangle.carried import CARRIED
from choicetriangle.forms import NOT_BEGUN
from choicetriangle.inorder import INORDER
from choicetriangle.moves import MOVES, Way
from choicetriangle.products import PRODUCTS
from choicetriangle.rowsdivided import ROWSDIVIDED
from choicetriangle.views import VIEWS
from choicetriangle.whatsleft import WHATSLEFT

BEGIN = 0
FIRST_VIEW = 9
FIRST_CARRIED = 21
FIRST_PRODUCT = 33
FIRST_BYPRIME = 44
FIRST_LEFT = 57
FIRST_DIVIDED = 70
FIRST_ORDERED = 86

# How many whole numbers stand behind each call's number; a row for each part of the program.
ARGUMENTS = (
    1, 1, 1, 0, 1, 0, 2, 0, 0,
    0, 0, 0, 0, 0, 2, 0, 1, 1, 1, 0, 0,
    1, 1, 2, 2, 3, 1, 1, 2, 1, 1, 4, 2,
    1, 1, 1, 1, 2, 2, 1, 1, 2, 1, 1,
    2, 2, 1, 1, 1, 1, 1, 1, 1, 1, 1, 1, 2,
    2, 1, 1, 2, 2, 1, 4, 1, 1, 2, 2, 2, 2,
    1, 0, 0, 0, 2, 1, 1, 1, 1, 1, 1, 0, 0, 1, 0, 1,
    2, 1, 1, 1, 1, 0, 0, 2, 0, 1,
)


def answers(calls):
    """The answers to the calls: of each how many numbers it has, then these."""
    way = Way()
    answered = []
    start = 0
    while start < len(calls):
        end = start + 1 + ARGUMENTS[calls[start]]
        answer = answer_call(way, calls[start], calls[start + 1:end])
        answered.append(len(answer))
        answered.extend(answer)
        start = end
    return answered


def answer_call(way, call, given):
    if call != BEGIN and way.prime == 0:
        return [NOT_BEGUN]
    if call < FIRST_VIEW:
        return MOVES[call](way, given)
    if call < FIRST_CARRIED:
        return VIEWS[call - FIRST_VIEW](way, given)
    if call < FIRST_DIVIDED:
        return answer_of_prime(way.prime, call, given)
    if call < FIRST_ORDERED:
        return ROWSDIVIDED[call - FIRST_DIVIDED](len(way.steps), given)
    return INORDER[call - FIRST_ORDERED](way.steps, given)


def answer_of_prime(prime, call, given):
    """The answer to a stage's call, which is asked of the prime alone."""
    if call < FIRST_PRODUCT:
        return CARRIED[call - FIRST_CARRIED](prime, given)
    if call < FIRST_BYPRIME:
        return PRODUCTS[call - FIRST_PRODUCT](prime, given)
    if call < FIRST_LEFT:
        return BYPRIME[call - FIRST_BYPRIME](prime, given)
    return WHATSLEFT[call - FIRST_LEFT](prime, given)
