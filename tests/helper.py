"""Calls by name, and answers taken apart."""

import itertools

from choicetriangle.way import answers

# Each call's number and how many numbers stand behind it, as the document's interface lists them.
INTERFACE = """
begin 0 1, prime 1 1, down 2 1, up 3 0, turn 4 1, mirror 5 0, go 6 2, next 7 0, back 8 0, here 9 0,
number 10 0, often 11 0, left 12 0, divided 13 0, avoid 14 2, clean 15 0, turnsto 16 1, together 17 1,
behind 18 1, best 19 0, told 20 0, digits 21 1, cross 22 1, carries 23 2, carriedat 24 2, three 25 3,
divides 26 1, onemore 27 1, pairswith 28 2, mostcarries 29 1, like 30 1, fromdigits 31 4, without 32 2,
product 33 1, productoften 34 1, rest 35 1, leastof 36 1, noughts 37 2, span 38 2, gaps 39 1,
notsquare 40 1, twice 41 2, parts 42 1, jumps 43 1, choose 44 2, times 45 2, rowoften 46 1, spared 47 1,
whole 48 1, none 49 1, most 50 1, first 51 1, rows 52 1, bare 53 1, middle 54 1, below 55 1, with 56 2,
leftat 57 2, rowleft 58 1, counts 59 1, nextplace 60 2, odd 61 2, odds 62 1, joined 63 4, sumleft 64 1,
turnsleft 65 1, same 66 2, by 67 2, which 68 2, under 69 2, at 70 1, greatest 71 0, least 72 0, upto 73 0,
shared 74 2, star 75 1, starproduct 76 1, hermite 77 1, dividing 78 1, great 79 1, places 80 1, even 81 0,
fewest 82 0, sum 83 1, squares 84 0, stick 85 1, choice 86 2, between 87 1, meet 88 1, sharing 89 1,
having 90 1, all 91 0, rights 92 0, gray 93 2, thingsum 94 0, waysof 95 1
"""
NUMBERS = {}
COUNTS = {}
for entry in INTERFACE.replace("\n", " ").split(","):
    name, number, count = entry.split()
    NUMBERS[name] = int(number)
    COUNTS[name] = int(count)

PRIMES = [2, 3, 5, 7, 11, 13, 17, 19, 23, 29, 31, 37, 41, 43, 47, 53, 59, 61, 67, 71, 73, 79, 83, 89, 97]
GREATEST = 4294967295


def encoded(*calls):
    """The list to hand in; a call is a text such as "avoid 5 2"."""
    numbers = []
    for call in calls:
        words = call.split()
        assert len(words) == 1 + COUNTS[words[0]], call
        numbers.append(NUMBERS[words[0]])
        numbers.extend(int(word) for word in words[1:])
    return numbers


def apart(answered, count):
    """So many answers, a list each; they must be all there is."""
    found = []
    start = 0
    for _ in range(count):
        length = answered[start]
        assert length >= 1
        found.append(answered[start + 1:start + 1 + length])
        start += 1 + length
    assert start == len(answered)
    assert all(len(answer) == 1 for answer in found if answer[0] < 0)
    return found


def ask(*calls):
    """All answers, a list each."""
    answered = answers(encoded(*calls))
    assert all(type(number) is int for number in answered)
    return apart(answered, len(calls))


def ask_prime(prime, call):
    """The answer to one call, of a way without steps."""
    return ask(f"begin {prime}", call)[1]


def ask_many(prime, calls):
    """The answers to the calls, however many, of a way without steps; in lists of at most 120 calls."""
    found = []
    for start in range(0, len(calls), 119):
        found += ask(f"begin {prime}", *calls[start:start + 119])[1:]
    return found


def led(prime, steps):
    """The calls that begin and lead down; steps is a text or a row of 0 and 1."""
    return [f"begin {prime}"] + [f"down {step}" for step in steps]


def ask_way(prime, steps, *calls):
    """The answers to the calls, behind those steps."""
    leading = led(prime, steps)
    return ask(*leading, *calls)[len(leading):]


def all_steps(count):
    return list(itertools.product([0, 1], repeat=count))


def mask_of(steps):
    return sum(2 ** i for i, step in enumerate(steps) if int(step))


def steps_of(mask, count):
    return [mask // 2 ** i % 2 for i in range(count)]


def ways_in_order(count, place):
    """All ways of so many steps to the place, as one number each, rising."""
    return [mask for mask in range(2 ** count) if bin(mask).count("1") == place]


def divided_times(number, prime):
    found = 0
    while number % prime ** (found + 1) == 0:
        found += 1
    return found


def triangle(rows):
    """The triangle's rows 0 up to that one, each place those above it together."""
    found = [[1]]
    for _ in range(rows):
        ahead = found[-1]
        found.append([1] + [a + b for a, b in zip(ahead, ahead[1:])] + [1])
    return found
