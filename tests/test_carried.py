"""The calls of "Carried over"."""

import random
import unittest

from tests.helper import GREATEST, PRIMES, ask, ask_prime, divided_times

MILLION = 1000000


def digits(n, prime):
    found = []
    while n:
        n, digit = divmod(n, prime)
        found.append(digit)
    return found


def carried(a, b, prime):
    """The places where what the next power leaves of both is that power, together, or more."""
    found = []
    for place in range(40):
        power = prime ** (place + 1)
        if a % power + b % power >= power:
            found.append(place)
    return found


def samples():
    """Pairs: corners with one another, and some that only a seed chooses."""
    corners = [0, 1, 2, 96, 97, 98, 127, 128, 9408, 9409, 531441, 999999, MILLION]
    pairs = [(a, b) for a in corners for b in corners]
    chooser = random.Random(7)
    return pairs + [(chooser.randrange(MILLION + 1), chooser.randrange(MILLION + 1)) for _ in range(60)]


class Refusals(unittest.TestCase):
    """Each call refuses what's above its bound, and lets its bound through."""

    def refuse(self, *calls):
        for call in calls:
            self.assertEqual(ask("begin 97", "down 1", call, "told")[2:], [[-22], [97, 1, 1]], call)

    def let_through(self, *calls):
        for call in calls:
            self.assertGreaterEqual(ask_prime(97, call)[0], 0, call)

    def test_one_number_up_to_a_million(self):
        for name in ["digits", "cross", "divides"]:
            self.refuse(f"{name} 1000001", f"{name} {GREATEST}")
            self.let_through(f"{name} 1000000")

    def test_two_numbers_up_to_a_million(self):
        for name in ["carries", "carriedat", "without"]:
            self.refuse(f"{name} 1000001 0", f"{name} 0 1000001", f"{name} {GREATEST} {GREATEST}")
            self.let_through(f"{name} 1000000 1000000", f"{name} 1000000 0")

    def test_three(self):
        self.refuse("three 1000001 0 0", "three 0 1000001 0", "three 0 0 1000001",
                    f"three {GREATEST} {GREATEST} {GREATEST}")
        self.let_through("three 1000000 1000000 1000000")

    def test_divides_nought(self):
        self.refuse("divides 0")

    def test_onemore(self):
        self.refuse("onemore 1000000", "onemore 1000001", f"onemore {GREATEST}")
        self.let_through("onemore 999999", "onemore 0")

    def test_pairs(self):
        self.refuse("pairswith 61 0", f"pairswith 61 {GREATEST}", f"pairswith {GREATEST} 0",
                    "mostcarries 61", f"mostcarries {GREATEST}")
        self.let_through("pairswith 60 0", f"pairswith 60 {GREATEST}", "pairswith 60 1000001", "mostcarries 60")

    def test_like(self):
        self.refuse("like 1001", "like 1000001", f"like {GREATEST}")

    def test_fromdigits(self):
        self.refuse("fromdigits 97 0 0 0", "fromdigits 0 97 0 0", "fromdigits 0 0 97 0", "fromdigits 0 0 0 97",
                    f"fromdigits {GREATEST} {GREATEST} {GREATEST} {GREATEST}")
        self.let_through("fromdigits 96 96 96 96")

    def test_without_less_than_nothing(self):
        self.assertEqual(ask("begin 3", "down 1", "without 4 5", "told")[2:], [[-33], [3, 1, 1]])
        self.assertEqual(ask_prime(3, "without 0 1000000"), [-33])

    def test_without_a_number_too_great_comes_first(self):
        self.assertEqual(ask_prime(3, "without 0 1000001"), [-22])
        self.assertEqual(ask_prime(3, f"without 5 {GREATEST}"), [-22])

    def test_like_a_number_too_great_comes_first(self):
        # Of neither there's one among the next 2,000; only the lesser one is asked for it.
        self.assertEqual(ask("begin 59", "like 944", "like 1003")[1:], [[-33], [-22]])


class Digits(unittest.TestCase):
    def test_every_prime(self):
        numbers = [0, 1, 2, 60, 96, 97, 98, 9408, 9409, 65535, 65536, 999999, MILLION]
        for prime in PRIMES:
            found = ask(f"begin {prime}", *[f"digits {n}" for n in numbers], *[f"cross {n}" for n in numbers])[1:]
            expected = [[len(digits(n, prime))] + digits(n, prime) for n in numbers]
            self.assertEqual(found, expected + [[sum(digits(n, prime))] for n in numbers])

    def test_written_out(self):
        self.assertEqual(ask_prime(2, "digits 0"), [0])
        self.assertEqual(ask_prime(2, "digits 6"), [3, 0, 1, 1])
        self.assertEqual(ask_prime(97, "digits 97"), [2, 0, 1])
        self.assertEqual(ask_prime(97, "digits 1000000"), [4, 27, 27, 9, 1])
        self.assertEqual(ask_prime(97, "cross 1000000"), [64])
        self.assertEqual(ask_prime(5, "cross 0"), [0])
        self.assertEqual(ask_prime(7, "cross 342"), [18])

    def test_divides(self):
        numbers = [1, 2, 96, 97, 98, 128, 9409, 524288, 531441, 912673, 999999, MILLION]
        for prime in PRIMES:
            found = ask(f"begin {prime}", *[f"divides {n}" for n in numbers])[1:]
            self.assertEqual(found, [[divided_times(n, prime)] for n in numbers])
        self.assertEqual(ask_prime(2, "divides 1000000"), [6])
        self.assertEqual(ask_prime(97, "divides 97"), [1])

    def test_fromdigits(self):
        self.assertEqual(ask_prime(2, "fromdigits 1 0 1 1"), [13])
        self.assertEqual(ask_prime(97, "fromdigits 0 1 0 0"), [97])
        self.assertEqual(ask_prime(97, "fromdigits 96 96 96 96"), [88529280])
        self.assertEqual(ask_prime(5, "fromdigits 0 0 0 0"), [0])
        self.assertEqual(ask_prime(7, "fromdigits 1 2 3 4"), [1 + 2 * 7 + 3 * 49 + 4 * 343])
        self.assertEqual(ask_prime(2, "fromdigits 1 1 1 2"), [-22])

    def test_like(self):
        for prime in [2, 3, 7, 47, 53, 97]:
            cross = [sum(digits(m, prime)) for m in range(3001)]
            for start in range(0, 1001, 100):
                numbers = range(start, min(start + 100, 1001))
                found = ask(f"begin {prime}", *[f"like {n}" for n in numbers])[1:]
                for n, answer in zip(numbers, found):
                    expected = [m for m in range(n + 1, n + 2001) if cross[m] == cross[n]]
                    self.assertEqual(answer, expected[:1] or [-33], (prime, n))

    def test_like_corners(self):
        self.assertEqual(ask_prime(2, "like 0"), [-33])
        self.assertEqual(ask_prime(2, "like 1"), [2])
        self.assertEqual(ask_prime(2, "like 511"), [767])
        self.assertEqual(ask_prime(97, "like 96"), [192])
        self.assertEqual(ask("begin 2", "down 1", "like 0", "told")[2:], [[-33], [2, 1, 1]])

    def test_like_2000_numbers_further_at_most(self):
        # To 47, 235 is 5 0, and 2213 (1 0 4) lies 1,978 further; what's like 188 would lie 2,024 further.
        self.assertEqual(ask_prime(47, "like 235"), [2213])
        self.assertEqual(ask_prime(47, "like 188"), [-33])
        self.assertEqual(ask_prime(97, "like 97"), [-33])


class Carries(unittest.TestCase):
    def test_where_and_how_often(self):
        for prime in PRIMES:
            for a, b in samples():
                places = carried(a, b, prime)
                self.assertEqual(ask(f"begin {prime}", f"carries {a} {b}", f"carriedat {a} {b}")[1:],
                                 [[len(places)], [len(places)] + places], (prime, a, b))

    def test_all_small_numbers(self):
        for prime in [2, 3, 5]:
            for a in range(30):
                found = ask(f"begin {prime}", *[f"carriedat {a} {b}" for b in range(30)])[1:]
                expected = [carried(a, b, prime) for b in range(30)]
                self.assertEqual(found, [[len(places)] + places for places in expected])

    def test_a_carry_that_runs_on(self):
        self.assertEqual(ask_prime(2, "carriedat 524287 1"), [19] + list(range(19)))
        self.assertEqual(ask_prime(97, "carriedat 912672 1"), [3, 0, 1, 2])
        self.assertEqual(ask_prime(3, "carriedat 0 1000000"), [0])
        self.assertEqual(ask_prime(5, "carriedat 4 5"), [0])
        self.assertEqual(ask_prime(5, "carries 0 0"), [0])

    def test_not_from_the_last_place_on(self):
        self.assertEqual(ask_prime(5, "carriedat 15 10"), [1, 1])

    def test_cross_sums_tell_it(self):
        for prime in [2, 7, 97]:
            for a, b in samples():
                often = ask_prime(prime, f"carries {a} {b}")[0]
                self.assertEqual(sum(digits(a, prime)) + sum(digits(b, prime)),
                                 sum(digits(a + b, prime)) + (prime - 1) * often)

    def test_three(self):
        chooser = random.Random(11)
        corners = [0, 1, 97, 999999, MILLION]
        rows = [(a, b, c) for a in corners for b in corners for c in corners]
        rows += [tuple(chooser.randrange(MILLION + 1) for _ in range(3)) for _ in range(50)]
        for prime in [2, 3, 43, 97]:
            for a, b, c in rows:
                first = len(carried(a, b, prime))
                expected = [first + len(carried(a + b, c, prime)), first, len(carried(b, c, prime))]
                self.assertEqual(ask_prime(prime, f"three {a} {b} {c}"), expected)
                self.assertEqual(ask_prime(prime, f"three {c} {a} {b}")[0], expected[0])

    def test_three_written_out(self):
        # 1 and 1 carry once to 2; 2 and 2 once more; 1 and 2 not at all.
        self.assertEqual(ask_prime(2, "three 1 1 2"), [2, 1, 0])
        self.assertEqual(ask_prime(2, "three 2 1 1"), [2, 0, 1])

    def test_onemore(self):
        for prime in PRIMES:
            for n in [0, 1, prime - 1, prime, prime ** 2 - 1, 524287, 531440, 912672, 999998, 999999]:
                expected = [sum(digits(n + 1, prime)), divided_times(n + 1, prime)]
                self.assertEqual(ask_prime(prime, f"onemore {n}"), expected)
        self.assertEqual(ask_prime(2, "onemore 524287"), [1, 19])

    def test_without(self):
        for prime in [2, 5, 97]:
            for a, b in samples():
                expected = [-33] if a < b else [a - b, len(carried(a - b, b, prime))]
                self.assertEqual(ask_prime(prime, f"without {a} {b}"), expected)
        self.assertEqual(ask_prime(2, "without 4 1"), [3, 2])
        self.assertEqual(ask_prime(2, "without 5 5"), [0, 0])


class Pairs(unittest.TestCase):
    def test_every_number_up_to_60(self):
        for prime in [2, 3, 5, 59, 61, 97]:
            for n in range(61):
                often = [len(carried(a, n - a, prime)) for a in range(n + 1)]
                for c in range(max(often) + 2):
                    expected = [a for a in range(n + 1) if often[a] == c]
                    self.assertEqual(ask_prime(prime, f"pairswith {n} {c}"), [len(expected)] + expected)
                self.assertEqual(ask_prime(prime, f"mostcarries {n}"), [max(often)])

    def test_written_out(self):
        self.assertEqual(ask_prime(2, "pairswith 4 2"), [2, 1, 3])
        self.assertEqual(ask_prime(2, "pairswith 0 0"), [1, 0])
        self.assertEqual(ask_prime(2, f"pairswith 60 {GREATEST}"), [0])
        self.assertEqual(ask_prime(2, "mostcarries 32"), [5])
        self.assertEqual(ask_prime(2, "mostcarries 0"), [0])
        self.assertEqual(ask_prime(97, "mostcarries 60"), [0])


if __name__ == "__main__":
    unittest.main()
