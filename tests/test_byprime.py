"""choose, times, rowoften and spared of "Choices by a prime"."""

import random
import unittest

from tests.helper import GREATEST, PRIMES, ask, ask_prime, divided_times, triangle

ROWS = triangle(200)
THOUSAND_MILLIONS = 1000000000


def product_often(n, prime):
    return sum(n // prime ** power for power in range(1, 25))


class Refusals(unittest.TestCase):
    def test_refused_it_changes_nothing(self):
        for call in ["choose 61 0", "choose 61 62", "choose 60 61", "choose 0 1", f"choose {GREATEST} 0",
                     f"choose 60 {GREATEST}", f"choose {GREATEST} {GREATEST}",
                     "times 1000001 0", "times 1000000 1000001", "times 0 1", "times 5 6", f"times {GREATEST} 0",
                     f"times 5 {GREATEST}", f"times {GREATEST} {GREATEST}",
                     "rowoften 61", f"rowoften {GREATEST}", "spared 1000001", f"spared {GREATEST}"]:
            self.assertEqual(ask("begin 3", "down 1", call, "told")[2:], [[-22], [3, 1, 1]], call)

    def test_the_greatest_let_through(self):
        for call in ["choose 60 60", "choose 60 0", "times 1000000 1000000", "times 1000000 0",
                     "rowoften 60", "spared 1000000"]:
            self.assertGreaterEqual(ask_prime(97, call)[0], 0, call)


class Choose(unittest.TestCase):
    def test_every_place_up_to_row_60(self):
        for n in range(61):
            found = ask("begin 2", *[f"choose {n} {k}" for k in range(n + 1)])[1:]
            self.assertEqual(found, [list(divmod(number, THOUSAND_MILLIONS)) for number in ROWS[n]])

    def test_written_out(self):
        self.assertEqual(ask_prime(97, "choose 0 0"), [0, 1])
        self.assertEqual(ask_prime(97, "choose 1 1"), [0, 1])
        self.assertEqual(ask_prime(97, "choose 5 2"), [0, 10])
        self.assertEqual(ask_prime(97, "choose 60 30"), [118264581, 564861424])


class Times(unittest.TestCase):
    def test_small_rows(self):
        for prime in PRIMES:
            for n in [0, 1, 2, 3, 4, 8, 9, 25, 48, 64, 96, 97, 98, 100, 119]:
                found = ask(f"begin {prime}", *[f"times {n} {k}" for k in range(min(n, 118) + 1)])[1:]
                self.assertEqual(found, [[divided_times(number, prime)] for number in ROWS[n][:119]])

    def test_rows_up_to_a_million(self):
        chooser = random.Random(3)
        places = [(1000000, k) for k in [0, 1, 2, 97, 500000, 999999, 1000000]]
        places += [(n, chooser.randrange(n + 1)) for n in [1024, 9409, 524288, 531441, 912673, 999999] * 9]
        for prime in PRIMES:
            for n, k in places:
                expected = product_often(n, prime) - product_often(k, prime) - product_often(n - k, prime)
                self.assertEqual(ask_prime(prime, f"times {n} {k}"), [expected])

    def test_written_out(self):
        self.assertEqual(ask_prime(2, "times 4 1"), [2])
        self.assertEqual(ask_prime(2, "times 4 2"), [1])
        self.assertEqual(ask_prime(97, "times 97 1"), [1])
        self.assertEqual(ask_prime(97, "times 96 48"), [0])
        self.assertEqual(ask_prime(2, "times 524288 1"), [19])


class RowOften(unittest.TestCase):
    def test_every_row_up_to_60(self):
        for prime in PRIMES:
            for n in range(61):
                expected = [n + 1] + [divided_times(number, prime) for number in ROWS[n]]
                self.assertEqual(ask_prime(prime, f"rowoften {n}"), expected)

    def test_written_out(self):
        self.assertEqual(ask_prime(2, "rowoften 0"), [1, 0])
        self.assertEqual(ask_prime(2, "rowoften 1"), [2, 0, 0])
        self.assertEqual(ask_prime(2, "rowoften 4"), [5, 0, 2, 1, 2, 0])
        self.assertEqual(ask_prime(5, "rowoften 5"), [6, 0, 1, 1, 1, 1, 0])


class Spared(unittest.TestCase):
    def test_every_row_up_to_200(self):
        for prime in PRIMES:
            for start in range(0, 201, 100):
                rows = range(start, min(start + 100, 201))
                found = ask(f"begin {prime}", *[f"spared {n}" for n in rows])[1:]
                expected = [sum(number % prime > 0 for number in ROWS[n]) for n in rows]
                self.assertEqual(found, [[spared, n + 1 - spared] for n, spared in zip(rows, expected)])

    def test_great_rows(self):
        self.assertEqual(ask_prime(2, "spared 1000000"), [128, 999873])
        self.assertEqual(ask_prime(97, "spared 1000000"), [28 * 28 * 10 * 2, 1000001 - 15680])
        self.assertEqual(ask_prime(2, "spared 524287"), [524288, 0])
        self.assertEqual(ask_prime(2, "spared 524288"), [2, 524287])
        self.assertEqual(ask_prime(3, "spared 531441"), [2, 531440])

    def test_written_out(self):
        self.assertEqual(ask_prime(2, "spared 0"), [1, 0])
        self.assertEqual(ask_prime(97, "spared 97"), [2, 96])
        self.assertEqual(ask_prime(97, "spared 96"), [97, 0])


if __name__ == "__main__":
    unittest.main()
