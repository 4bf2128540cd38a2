"""The calls of "Products of all"."""

import math
import unittest

from tests.helper import GREATEST, PRIMES, ask, ask_prime, divided_times

MILLION = 1000000


def factors(b):
    """Each prime that divides b, with how often."""
    return [(q, divided_times(b, q)) for q in PRIMES if b % q == 0]


def product_often(n, prime):
    """Number by number, so that no closed form is needed."""
    return sum(divided_times(m, prime) for m in range(prime, n + 1, prime))


class Refusals(unittest.TestCase):
    def refuse(self, *calls):
        for call in calls:
            self.assertEqual(ask("begin 3", "down 1", call, "told")[2:], [[-22], [3, 1, 1]], call)

    def let_through(self, *calls):
        for call in calls:
            self.assertGreaterEqual(ask_prime(3, call)[0], 0, call)

    def test_up_to_a_million(self):
        for name in ["productoften", "rest", "jumps"]:
            self.refuse(f"{name} 1000001", f"{name} {GREATEST}")
            self.let_through(f"{name} 1000000")
        self.refuse("jumps 0")
        self.let_through("jumps 1", "productoften 0", "rest 0")

    def test_lesser_bounds(self):
        self.refuse("product 21", f"product {GREATEST}", "leastof 601", f"leastof {GREATEST}",
                    "gaps 61", f"gaps {GREATEST}", "notsquare 61", f"notsquare {GREATEST}")
        self.let_through("product 20", "gaps 60", "notsquare 60")

    def test_span(self):
        self.refuse("span 0 5", "span 0 0", "span 5 4", "span 1 1000001", "span 1000001 1000001",
                    f"span {GREATEST} {GREATEST}", f"span 1 {GREATEST}", f"span {GREATEST} 1", "span 1000001 5")
        self.let_through("span 1 1000000", "span 1000000 1000000")

    def test_bases(self):
        for b in [0, 1, 101, 1000001, GREATEST]:
            self.refuse(f"parts {b}", f"noughts {b} 5")
        self.refuse("noughts 10 1000001", f"noughts 10 {GREATEST}", f"noughts {GREATEST} {GREATEST}",
                    "noughts 1 1000001")
        self.let_through("parts 2", "parts 100", "noughts 2 1000000", "noughts 100 1000000", "noughts 100 0")

    def test_twice(self):
        self.refuse("twice 5 61", "twice 1000001 5", f"twice 5 {GREATEST}", f"twice {GREATEST} 5", "twice 1000001 61")
        self.let_through("twice 1000000 60", "twice 0 0")

    def test_leastof_none(self):
        self.assertEqual(ask("begin 3", "down 1", "leastof 600", "told")[2:], [[-33], [3, 1, 1]])

    def test_leastof_above_600_comes_first(self):
        self.assertEqual(ask_prime(97, "leastof 600"), [-33])
        self.assertEqual(ask_prime(97, "leastof 601"), [-22])


class Products(unittest.TestCase):
    def test_product(self):
        found = ask("begin 97", *[f"product {n}" for n in range(21)])[1:]
        self.assertEqual(found, [[math.factorial(n)] for n in range(21)])
        self.assertEqual(ask_prime(2, "product 20"), [2432902008176640000])
        self.assertEqual(ask_prime(2, "product 0"), [1])

    def test_how_often_and_rest(self):
        for prime in PRIMES:
            for n in list(range(0, 30)) + [prime - 1, prime, prime + 1, 2 * prime, prime ** 2 - 1, prime ** 2]:
                product = math.factorial(n)
                often = divided_times(product, prime)
                left = product // prime ** often % prime
                self.assertEqual(ask(f"begin {prime}", f"productoften {n}", f"rest {n}")[1:], [[often], [left]])

    def test_a_million(self):
        for prime in [2, 3, 5, 89, 97]:
            often = product_often(MILLION, prime)
            left = 1
            for m in range(1, MILLION + 1):
                while m % prime == 0:
                    m //= prime
                left = left * m % prime
            self.assertEqual(ask(f"begin {prime}", "productoften 1000000", "rest 1000000")[1:], [[often], [left]])
        self.assertEqual(ask_prime(2, "productoften 1000000"), [999993])
        self.assertEqual(ask_prime(5, "productoften 1000000"), [249998])

    def test_what_is_left_is_never_nothing(self):
        for prime in PRIMES:
            found = ask(f"begin {prime}", *[f"rest {n}" for n in range(0, 9500, 97)])[1:]
            self.assertTrue(all(0 < answer[0] < prime for answer in found))

    def test_written_out(self):
        # The product of 6 is 720: by 2 four times, 45 is left, 1 of it; by 5 once, 144, 4 of it.
        self.assertEqual(ask("begin 2", "productoften 6", "rest 6")[1:], [[4], [1]])
        self.assertEqual(ask("begin 5", "productoften 6", "rest 6")[1:], [[1], [4]])
        self.assertEqual(ask("begin 97", "productoften 96", "rest 96", "productoften 97")[1:], [[0], [96], [1]])
        self.assertEqual(ask("begin 97", "productoften 0", "rest 0", "rest 1")[1:], [[0], [1], [1]])

    def test_jumps(self):
        for prime in [2, 3, 7, 97]:
            for n in [1, 2, prime - 1, prime, prime ** 2, prime ** 2 + 1, 100, 1024, 2187]:
                fewer = product_often(n - 1, prime)
                often = product_often(n, prime)
                self.assertEqual(ask_prime(prime, f"jumps {n}"), [often - fewer, fewer, often])
        self.assertEqual(ask_prime(2, "jumps 8"), [3, 4, 7])
        self.assertEqual(ask_prime(2, "jumps 1"), [0, 0, 0])
        self.assertEqual(ask_prime(5, "jumps 1000000"), [6, 249992, 249998])


class Least(unittest.TestCase):
    def test_every_number_of_times(self):
        for prime in [2, 3, 5, 7, 47, 97]:
            often = [product_often(n, prime) for n in range(700)]
            for start in range(0, 601, 100):
                wanted = range(start, min(start + 100, 601))
                found = ask(f"begin {prime}", *[f"leastof {k}" for k in wanted])[1:]
                for k, answer in zip(wanted, found):
                    fitting = [n for n in range(700) if often[n] >= k]
                    self.assertEqual(answer, [fitting[0], often[fitting[0]]] if fitting else [-33], (prime, k))

    def test_corners(self):
        self.assertEqual(ask_prime(2, "leastof 0"), [0, 0])
        self.assertEqual(ask_prime(2, "leastof 2"), [4, 3])
        self.assertEqual(ask_prime(2, "leastof 600"), [606, 600])
        self.assertEqual(ask_prime(2, "leastof 601")[0], -22)
        self.assertEqual(ask_prime(97, "leastof 1"), [97, 1])
        self.assertEqual(ask_prime(97, "leastof 7"), [679, 7])
        self.assertEqual(ask_prime(97, "leastof 8"), [-33])

    def test_below_700(self):
        # The product of 699 is divided by 3 oftener than that of 698; 700 is divided by 7.
        self.assertEqual(ask_prime(3, f"leastof {product_often(699, 3)}"), [699, product_often(699, 3)])
        self.assertEqual(ask_prime(7, f"leastof {product_often(699, 7) + 1}"), [-33])

    def test_span(self):
        for prime in [2, 3, 97]:
            for a in range(1, 30):
                calls = [f"span {a} {b}" for b in range(a, 40)]
                expected = [[divided_times(math.prod(range(a, b + 1)), prime)] for b in range(a, 40)]
                self.assertEqual(ask(f"begin {prime}", *calls)[1:], expected)

    def test_span_corners(self):
        self.assertEqual(ask_prime(2, "span 1000000 1000000"), [6])
        self.assertEqual(ask_prime(2, "span 1 1000000"), [999993])
        self.assertEqual(ask_prime(97, "span 97 97"), [1])
        self.assertEqual(ask_prime(97, "span 98 193"), [0])
        self.assertEqual(ask_prime(5, "span 25 25"), [2])

    def test_gaps(self):
        for prime in PRIMES:
            met = [product_often(n, prime) for n in range(200)]
            for n in range(61):
                expected = [k for k in range(met[n] + 1) if k not in met]
                self.assertEqual(ask_prime(prime, f"gaps {n}"), [len(expected)] + expected)

    def test_a_power_leapt_over(self):
        self.assertEqual(ask_prime(2, "gaps 4"), [1, 2])
        self.assertEqual(ask_prime(2, "gaps 3"), [0])
        self.assertEqual(ask_prime(2, "gaps 8"), [3, 2, 5, 6])
        self.assertEqual(ask_prime(97, "gaps 60"), [0])
        self.assertEqual(ask_prime(5, "gaps 0"), [0])


class Bases(unittest.TestCase):
    def test_parts_of_every_base(self):
        for b in range(2, 101):
            expected = [len(factors(b))] + [number for pair in factors(b) for number in pair]
            self.assertEqual(ask_prime(7, f"parts {b}"), expected)

    def test_parts_written_out(self):
        self.assertEqual(ask_prime(2, "parts 72"), [2, 2, 3, 3, 2])
        self.assertEqual(ask_prime(2, "parts 97"), [1, 97, 1])
        self.assertEqual(ask_prime(2, "parts 64"), [1, 2, 6])
        self.assertEqual(ask_prime(2, "parts 90"), [3, 2, 1, 3, 2, 5, 1])
        self.assertEqual(ask_prime(3, "parts 100"), [2, 2, 2, 5, 2])

    def test_noughts_of_every_base(self):
        for n in [0, 1, 2, 5, 11, 25, 97, 120]:
            product = math.factorial(n)
            found = ask("begin 2", *[f"noughts {b} {n}" for b in range(2, 101)])[1:]
            self.assertEqual(found, [[divided_times(product, b)] for b in range(2, 101)])

    def test_noughts_of_a_million(self):
        in_product = {q: product_often(MILLION, q) for q in PRIMES}
        found = ask("begin 2", *[f"noughts {b} 1000000" for b in range(2, 101)])[1:]
        expected = [min(in_product[q] // often for q, often in factors(b)) for b in range(2, 101)]
        self.assertEqual(found, [[noughts] for noughts in expected])
        self.assertEqual(ask_prime(2, "noughts 10 1000000"), [249998])
        self.assertEqual(ask_prime(2, "noughts 16 1000000"), [249998])

    def test_which_prime_ends_it_first(self):
        # To 12 the fours, to 10 the fives, come short.
        self.assertEqual(ask_prime(97, "noughts 12 3"), [0])
        self.assertEqual(ask_prime(97, "noughts 12 4"), [1])
        self.assertEqual(ask_prime(97, "noughts 10 25"), [6])

    def test_notsquare(self):
        for n in range(61):
            product = math.factorial(n)
            expected = [q for q in PRIMES if q <= n and divided_times(product, q) % 2]
            self.assertEqual(ask_prime(2, f"notsquare {n}"), [len(expected)] + expected)
            self.assertEqual(expected == [], n < 2)

    def test_notsquare_written_out(self):
        self.assertEqual(ask_prime(97, "notsquare 4"), [2, 2, 3])
        self.assertEqual(ask_prime(97, "notsquare 0"), [0])
        self.assertEqual(ask_prime(97, "notsquare 1"), [0])

    def test_twice(self):
        for m in list(range(0, 14)) + [30, 59, 60]:
            square = math.factorial(m) ** 2
            found = ask("begin 2", *[f"twice {n} {m}" for n in range(0, 119)])[1:]
            self.assertEqual(found, [[int(math.factorial(n) % square == 0)] for n in range(0, 119)])

    def test_twice_corners(self):
        self.assertEqual(ask_prime(2, "twice 0 0"), [1])
        self.assertEqual(ask_prime(2, "twice 0 1"), [1])
        self.assertEqual(ask_prime(2, "twice 3 2"), [0])
        self.assertEqual(ask_prime(2, "twice 4 2"), [1])
        self.assertEqual(ask_prime(2, "twice 119 60"), [0])
        self.assertEqual(ask_prime(2, "twice 120 60"), [1])
        self.assertEqual(ask_prime(2, "twice 1000000 60"), [1])

    def test_no_prime_of_the_way_is_asked(self):
        for call in ["noughts 12 50", "parts 60", "notsquare 33", "twice 20 9", "product 9"]:
            self.assertEqual(len({tuple(ask_prime(prime, call)) for prime in PRIMES}), 1)


if __name__ == "__main__":
    unittest.main()
