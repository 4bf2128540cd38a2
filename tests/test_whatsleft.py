"""The calls of "What's left"."""

import math
import random
import unittest

from tests.helper import GREATEST, PRIMES, ask, ask_many, ask_prime, ask_way, triangle

MILLION = 1000000
ROWS = triangle(1002)


def counted(found):
    return [len(found)] + found


def lefts(n, prime):
    return [number % prime for number in ROWS[n]]


def corner_rows(prime):
    """Row 0, row 1, the prime's row, one less and one more, powers and their neighbours, up to 200."""
    powers = [prime ** e + d for e in range(1, 8) for d in (-1, 0, 1)]
    return sorted({n for n in powers + [0, 1, 2, 60, 61, 100, 119, 200] if n <= 200})


class Refusals(unittest.TestCase):
    def test_refused_it_changes_nothing(self):
        for call in ["leftat 1000001 0", "leftat 1000000 1000001", "leftat 0 1", "leftat 5 6", f"leftat {GREATEST} 0",
                     f"leftat 5 {GREATEST}", f"leftat {GREATEST} {GREATEST}",
                     "rowleft 61", f"rowleft {GREATEST}", "counts 101", f"counts {GREATEST}",
                     "nextplace 501 0", "nextplace 5 6", "nextplace 0 1", f"nextplace {GREATEST} 0",
                     f"nextplace 5 {GREATEST}", f"nextplace {GREATEST} {GREATEST}",
                     "odd 1000001 0", "odd 1000000 1000001", "odd 0 1", f"odd {GREATEST} 0", f"odd 5 {GREATEST}",
                     f"odd {GREATEST} {GREATEST}", "odds 1000001", f"odds {GREATEST}",
                     "joined 1001 0 0 0", "joined 0 1 0 0", "joined 5 6 0 0", "joined 5 5 3 0", "joined 5 5 0 3",
                     f"joined {GREATEST} 0 0 0", f"joined 5 {GREATEST} 0 0", f"joined 5 5 {GREATEST} 0",
                     f"joined 5 5 0 {GREATEST}", f"joined {GREATEST} {GREATEST} {GREATEST} {GREATEST}",
                     "sumleft 201", f"sumleft {GREATEST}", "turnsleft 201", f"turnsleft {GREATEST}",
                     "same 61 0", "same 0 61", "same 61 61", f"same {GREATEST} 0", f"same 0 {GREATEST}",
                     "by 201 2", "by 5 0", "by 5 1", "by 5 4", "by 5 91", "by 5 100", "by 5 101", f"by {GREATEST} 2",
                     f"by 5 {GREATEST}", "which 61 0", "which 5 3", f"which {GREATEST} 0", f"which 5 {GREATEST}",
                     "under 1001 0", "under 5 6", "under 0 1", f"under {GREATEST} 0", f"under 5 {GREATEST}"]:
            self.assertEqual(ask("begin 3", "down 1", call, "told")[2:], [[-22], [3, 1, 1]], call)

    def test_the_greatest_let_through(self):
        for call in ["leftat 1000000 1000000", "leftat 1000000 0", "rowleft 60", "counts 100", "nextplace 500 499",
                     "nextplace 500 0", "odd 1000000 1000000", "odd 1000000 0", "odds 1000000",
                     "joined 1000 1000 96 96", "joined 1000 0 0 0", "sumleft 200", "turnsleft 200", "same 60 60",
                     "same 60 0", "same 0 60", "by 200 97", "by 200 2", "which 60 96", "which 60 0",
                     "under 1000 1000", "under 1000 0"]:
            self.assertGreaterEqual(ask_prime(97, call)[0], 0, call)

    def test_nextplace_a_row_too_great_comes_first(self):
        # Behind the last place there's none, too.
        self.assertEqual(ask_many(3, ["nextplace 501 501", "nextplace 1000001 1000001", "nextplace 5 6"]), [[-22]] * 3)


class LeftAt(unittest.TestCase):
    def test_corner_rows_of_every_prime(self):
        for prime in PRIMES:
            for n in corner_rows(prime):
                found = ask_many(prime, [f"leftat {n} {k}" for k in range(n + 1)])
                self.assertEqual(found, [[left] for left in lefts(n, prime)], (prime, n))

    def test_all_small_rows(self):
        for prime in [2, 3, 5]:
            places = [(n, k) for n in range(90) for k in range(n + 1)]
            found = ask_many(prime, [f"leftat {n} {k}" for n, k in places])
            self.assertEqual(found, [[ROWS[n][k] % prime] for n, k in places])

    def test_a_million_near_both_ends(self):
        places = [0, 1, 2, 3, 27, 28, 64, 97, 98, 576, 999]
        for n in [999999, MILLION]:
            numbers = [math.comb(n, k) for k in places]
            for prime in PRIMES:
                expected = [[number % prime] for number in numbers]
                self.assertEqual(ask_many(prime, [f"leftat {n} {k}" for k in places]), expected)
                self.assertEqual(ask_many(prime, [f"leftat {n} {n - k}" for k in places]), expected)

    def test_rows_up_to_a_million(self):
        chooser = random.Random(13)
        for prime in [3, 43, 97]:
            without = self.products_without(prime, MILLION)
            places = [(n, chooser.randrange(n + 1)) for n in [MILLION, 999999, 912672, 531441, 85183, 9408] * 30]
            # Places whose digits are all at most the row's, so that something is left.
            places += [(n, self.lesser_digits(n, prime, chooser)) for n in [MILLION, 999999, 912672, 85183] * 30]
            expected = []
            for n, k in places:
                power = [self.often(m, prime) for m in (n, k, n - k)]
                left = without[n] * pow(without[k] * without[n - k], -1, prime) % prime
                expected.append([left if power[0] == power[1] + power[2] else 0])
            self.assertGreater(sum(left > [0] for left in expected), 100)
            self.assertEqual(ask_many(prime, [f"leftat {n} {k}" for n, k in places]), expected)

    def products_without(self, prime, most):
        """Of each number up to most all numbers up to it, multiplied, without the prime: what's left of that."""
        found = [1]
        for m in range(1, most + 1):
            while m % prime == 0:
                m //= prime
            found.append(found[-1] * m % prime)
        return found

    def often(self, n, prime):
        return sum(n // prime ** power for power in range(1, 25))

    def lesser_digits(self, n, prime, chooser):
        found = 0
        power = 1
        while n:
            found += chooser.randrange(n % prime + 1) * power
            power *= prime
            n //= prime
        return found

    def test_written_out(self):
        self.assertEqual(ask_many(2, ["leftat 0 0", "leftat 1 1", "leftat 4 2", "leftat 5 1"]), [[1], [1], [0], [1]])
        self.assertEqual(ask_many(97, ["leftat 97 1", "leftat 97 97", "leftat 96 1", "leftat 98 1", "leftat 98 2"]),
                         [[0], [1], [96], [1], [0]])
        # Digits 1 2 and 1: 1 over 0 times 2 over 1.
        self.assertEqual(ask_prime(3, "leftat 5 1"), [2])


class RowLeft(unittest.TestCase):
    def test_every_row_up_to_60(self):
        for prime in PRIMES:
            found = ask_many(prime, [f"rowleft {n}" for n in range(61)])
            self.assertEqual(found, [counted(lefts(n, prime)) for n in range(61)])

    def test_written_out(self):
        self.assertEqual(ask_prime(2, "rowleft 0"), [1, 1])
        self.assertEqual(ask_prime(5, "rowleft 5"), [6, 1, 0, 0, 0, 0, 1])
        self.assertEqual(ask_prime(5, "rowleft 4"), [5, 1, 4, 1, 4, 1])
        self.assertEqual(ask_prime(5, "rowleft 6"), [7, 1, 1, 0, 0, 0, 1, 1])


class Counts(unittest.TestCase):
    def test_every_row_up_to_100(self):
        for prime in PRIMES:
            found = ask_many(prime, [f"counts {n}" for n in range(101)])
            expected = [[prime] + [lefts(n, prime).count(left) for left in range(prime)] for n in range(101)]
            self.assertEqual(found, expected)

    def test_written_out(self):
        self.assertEqual(ask_prime(2, "counts 0"), [2, 0, 1])
        self.assertEqual(ask_prime(2, "counts 4"), [2, 3, 2])
        self.assertEqual(ask_prime(3, "counts 5"), [3, 0, 4, 2])
        self.assertEqual(ask_prime(97, "counts 97"), [97, 96, 2] + [0] * 95)


class NextPlace(unittest.TestCase):
    def expected(self, n, k, prime):
        found = [[place, ROWS[n][place] % prime] for place in range(k + 1, n + 1) if ROWS[n][place] % prime]
        return found[0] if found else [-33]

    def test_every_place_of_corner_rows(self):
        for prime in [2, 3, 5, 7, 47, 97]:
            for n in corner_rows(prime):
                found = ask_many(prime, [f"nextplace {n} {k}" for k in range(n + 1)])
                self.assertEqual(found, [self.expected(n, k, prime) for k in range(n + 1)])

    def test_row_500(self):
        for prime in PRIMES:
            places = [0, 1, 2, 96, 97, 249, 250, 400, 485, 498, 499, 500]
            found = ask_many(prime, [f"nextplace 500 {k}" for k in places])
            self.assertEqual(found, [self.expected(500, k, prime) for k in places])

    def test_behind_the_last_place_theres_none(self):
        for n in [0, 1, 5, 97, 500]:
            self.assertEqual(ask("begin 97", "down 1", f"nextplace {n} {n}", "told")[2:], [[-33], [97, 1, 1]])

    def test_written_out(self):
        self.assertEqual(ask_many(2, ["nextplace 4 0", "nextplace 5 0", "nextplace 5 1", "nextplace 5 4"]),
                         [[4, 1], [1, 1], [4, 1], [5, 1]])
        self.assertEqual(ask_many(97, ["nextplace 97 0", "nextplace 96 0", "nextplace 98 1"]),
                         [[97, 1], [1, 96], [97, 1]])


class Odd(unittest.TestCase):
    def test_rows_up_to_130_whatever_the_prime(self):
        for prime in [2, 97]:
            for n in [0, 1, 2, 3, 4, 31, 32, 33, 63, 64, 96, 97, 127, 128, 129]:
                found = ask_many(prime, [f"odd {n} {k}" for k in range(n + 1)])
                self.assertEqual(found, [[number % 2] for number in ROWS[n]])

    def test_up_to_a_million(self):
        chooser = random.Random(17)
        places = [(n, n & chooser.randrange(n + 1)) for n in [MILLION, 999999, 524287, 524288] * 20]
        places += [(n, chooser.randrange(n + 1)) for n in [MILLION, 999999, 524287, 524288] * 20]
        # Odd just if the place's ones are all among the row's.
        self.assertEqual(ask_many(3, [f"odd {n} {k}" for n, k in places]), [[int(n & k == k)] for n, k in places])

    def test_written_out(self):
        self.assertEqual(ask_many(3, ["odd 0 0", "odd 3 1", "odd 4 2", "odd 1000000 64", "odd 1000000 1"]),
                         [[1], [1], [0], [1], [0]])

    def test_odds_of_every_row_up_to_250_whatever_the_prime(self):
        for prime in [2, 97]:
            found = ask_many(prime, [f"odds {n}" for n in range(251)])
            expected = [[sum(number % 2 for number in ROWS[n]), bin(n).count("1")] for n in range(251)]
            self.assertEqual(found, expected)

    def test_odds_up_to_a_million(self):
        self.assertEqual(ask_many(5, ["odds 0", "odds 1000000", "odds 524287", "odds 524288", "odds 999999"]),
                         [[1, 0], [128, 7], [524288, 19], [2, 1], [4096, 12]])


class Joined(unittest.TestCase):
    def expected(self, a, b, c, d, prime):
        return [math.comb(a * prime + c, b * prime + d) % prime, math.comb(a, b) % prime, math.comb(c, d) % prime]

    def test_all_small_ones(self):
        for prime in [2, 3, 5]:
            rows = [(a, b, c, d) for a in range(7) for b in range(a + 1) for c in range(prime) for d in range(prime)]
            found = ask_many(prime, [f"joined {a} {b} {c} {d}" for a, b, c, d in rows])
            self.assertEqual(found, [self.expected(*row, prime) for row in rows])

    def test_every_prime(self):
        chooser = random.Random(19)
        for prime in PRIMES:
            rows = [(a, chooser.randrange(a + 1), chooser.randrange(prime), chooser.randrange(prime))
                    for a in [0, 1, 2, 7, 40] * 6]
            found = ask_many(prime, [f"joined {a} {b} {c} {d}" for a, b, c, d in rows])
            self.assertEqual(found, [self.expected(*row, prime) for row in rows])

    def test_up_to_1000(self):
        for prime in [2, 7, 97]:
            rows = [(1000, b, c, d) for b in [0, 1, 6, 998, 1000] for c in [0, prime - 1] for d in [0, prime - 1]]
            found = ask_many(prime, [f"joined {a} {b} {c} {d}" for a, b, c, d in rows])
            self.assertEqual(found, [self.expected(*row, prime) for row in rows])

    def test_no_such_place(self):
        # Place 11 of row 10 isn't there, and place 1 of row 0 isn't either.
        self.assertEqual(ask_prime(5, "joined 2 2 0 1"), [0, 1, 0])
        self.assertEqual(ask_prime(97, "joined 0 0 95 96"), [0, 1, 0])

    def test_written_out(self):
        self.assertEqual(ask_prime(5, "joined 3 1 4 2"), [3, 3, 1])
        self.assertEqual(ask_prime(2, "joined 0 0 0 0"), [1, 1, 1])


class Sums(unittest.TestCase):
    def test_every_row_up_to_200(self):
        for prime in PRIMES:
            self.assertEqual(ask_many(prime, [f"sumleft {n}" for n in range(201)]),
                             [[2 ** n % prime] for n in range(201)])
            self.assertEqual(ask_many(prime, [f"turnsleft {n}" for n in range(201)]),
                             [[(sum(ROWS[n][::2]) - sum(ROWS[n][1::2])) % prime] for n in range(201)])

    def test_written_out(self):
        self.assertEqual(ask_many(2, ["sumleft 0", "sumleft 1", "turnsleft 0", "turnsleft 1"]), [[1], [0], [1], [0]])
        self.assertEqual(ask_many(97, ["sumleft 6", "sumleft 7", "sumleft 96", "sumleft 97", "turnsleft 200"]),
                         [[64], [31], [1], [2], [0]])


class SameByWhich(unittest.TestCase):
    def test_same_of_every_two_rows(self):
        for prime in [2, 3, 59, 97]:
            rows = [(n, m) for n in [0, 1, 2, 3, 7, 8, 9, 27, 58, 59, 60] for m in range(61)]
            expected = [[sum(a == b for a, b in zip(lefts(n, prime), lefts(m, prime)))] for n, m in rows]
            self.assertEqual(ask_many(prime, [f"same {n} {m}" for n, m in rows]), expected)
            self.assertEqual(ask_many(prime, [f"same {m} {n}" for n, m in rows]), expected)

    def test_same_written_out(self):
        # 1 0 0 0 1 and 1 1 0 0 1 1, divided by 2.
        self.assertEqual(ask_many(2, ["same 4 5", "same 5 4", "same 0 60", "same 60 60"]), [[4], [4], [1], [61]])

    def test_by_every_prime_whatever_the_prime(self):
        for q in PRIMES:
            for prime in [2, 97]:
                found = ask_many(prime, [f"by {n} {q}" for n in range(0, 201, 8)])
                self.assertEqual(found, [[sum(left > 0 for left in lefts(n, q))] for n in range(0, 201, 8)])
            rows = corner_rows(q)
            self.assertEqual(ask_many(3, [f"by {n} {q}" for n in rows]),
                             [[sum(left > 0 for left in lefts(n, q))] for n in rows])

    def test_by_written_out(self):
        self.assertEqual(ask_many(3, ["by 4 2", "by 97 97", "by 96 97", "by 0 2", "by 4 3"]),
                         [[2], [2], [97], [1], [4]])

    def test_by_keeps_the_prime(self):
        self.assertEqual(ask_way(3, "1", "by 4 2", "told"), [[2], [3, 1, 1]])

    def test_which_of_every_row_up_to_60(self):
        for prime in [2, 3, 5, 59, 97]:
            rows = [(n, r) for n in range(61) for r in sorted({0, 1, 2, prime // 2, prime - 2, prime - 1}) if r < prime]
            expected = [counted([k for k in range(n + 1) if ROWS[n][k] % prime == r]) for n, r in rows]
            self.assertEqual(ask_many(prime, [f"which {n} {r}" for n, r in rows]), expected)

    def test_which_written_out(self):
        self.assertEqual(ask_many(2, ["which 4 0", "which 4 1", "which 0 0", "which 0 1"]),
                         [[3, 1, 2, 3], [2, 0, 4], [0], [1, 0]])
        self.assertEqual(ask_many(2, ["which 60 2", "which 0 2"]), [[-22], [-22]])


class Under(unittest.TestCase):
    def expected(self, n, k, prime):
        return [ROWS[n + 1][k] % prime, ROWS[n + 1][k + 1] % prime, ROWS[n + 2][k + 1] % prime]

    def test_every_place_of_some_rows(self):
        for prime in PRIMES:
            places = [(n, k) for n in [0, 1, 2, prime - 2, prime - 1, prime] for k in range(n + 1)]
            places += [(1000, k) for k in [0, 1, 2, 96, 97, 500, 998, 999, 1000]]
            found = ask_many(prime, [f"under {n} {k}" for n, k in places])
            self.assertEqual(found, [self.expected(n, k, prime) for n, k in places])

    def test_two_are_the_third_one_together(self):
        for prime in [2, 7, 97]:
            for first, second, third in ask_many(prime, [f"under 999 {k}" for k in range(0, 1000, 9)]):
                self.assertEqual((first + second) % prime, third)

    def test_written_out(self):
        # Places 2 and 3 of row 5, and place 3 of row 6: 10, 10, 20; places 1 and 2 of row 4: 4, 6, 10.
        self.assertEqual(ask_many(97, ["under 4 2", "under 3 1", "under 0 0"]), [[10, 10, 20], [4, 6, 10], [1, 1, 2]])
        self.assertEqual(ask_many(2, ["under 4 2", "under 3 1", "under 0 0"]), [[0, 0, 0], [0, 0, 0], [1, 1, 0]])


class OfThePrimeAlone(unittest.TestCase):
    def test_the_way_says_nothing(self):
        calls = ["leftat 9 4", "rowleft 9", "counts 9", "nextplace 9 4", "odd 9 1", "odds 9", "joined 3 2 1 1",
                 "sumleft 9", "turnsleft 9", "same 9 8", "by 9 5", "which 9 2", "under 9 4"]
        self.assertEqual(ask_way(3, "1101", *calls), ask_many(3, calls))

    def test_asked_of_the_prime_from_now_on(self):
        self.assertEqual(ask("begin 2", "leftat 5 1", "prime 3", "leftat 5 1"), [[2], [1], [2], [2]])


if __name__ == "__main__":
    unittest.main()
