"""The calls of "Choices by a prime"."""

import random
import unittest

from tests.helper import GREATEST, PRIMES, ask, ask_many, ask_prime, divided_times, triangle

ROWS = triangle(200)
THOUSAND_MILLIONS = 1000000000

# At each place of each row up to 200 how often the prime divides what's there.
OFTEN = {prime: [[divided_times(number, prime) for number in row] for row in ROWS] for prime in PRIMES}


def product_often(n, prime):
    return sum(n // prime ** power for power in range(1, 25))


class Refusals(unittest.TestCase):
    def test_refused_it_changes_nothing(self):
        for call in ["choose 61 0", "choose 61 62", "choose 60 61", "choose 0 1", f"choose {GREATEST} 0",
                     f"choose 60 {GREATEST}", f"choose {GREATEST} {GREATEST}",
                     "times 1000001 0", "times 1000000 1000001", "times 0 1", "times 5 6", f"times {GREATEST} 0",
                     f"times 5 {GREATEST}", f"times {GREATEST} {GREATEST}",
                     "rowoften 61", f"rowoften {GREATEST}", "spared 1000001", f"spared {GREATEST}",
                     "whole 201", f"whole {GREATEST}", "none 201", f"none {GREATEST}",
                     "most 201", f"most {GREATEST}", "first 201", f"first {GREATEST}",
                     "rows 101", f"rows {GREATEST}", "bare 101", f"bare {GREATEST}",
                     "below 101", f"below {GREATEST}", "middle 500001", f"middle {GREATEST}",
                     "with 201 0", f"with {GREATEST} 0", f"with {GREATEST} {GREATEST}"]:
            self.assertEqual(ask("begin 3", "down 1", call, "told")[2:], [[-22], [3, 1, 1]], call)

    def test_the_greatest_let_through(self):
        for call in ["choose 60 60", "choose 60 0", "times 1000000 1000000", "times 1000000 0",
                     "rowoften 60", "spared 1000000", "whole 200", "none 200", "most 200", "first 200",
                     "rows 100", "bare 100", "below 100", "middle 500000", "with 200 0", "with 200 1000001",
                     f"with 200 {GREATEST}"]:
            self.assertGreaterEqual(ask_prime(97, call)[0], 0, call)


class Choose(unittest.TestCase):
    def test_every_place_up_to_row_60(self):
        for n in range(61):
            found = ask("begin 2", *[f"choose {n} {k}" for k in range(n + 1)])[1:]
            self.assertEqual(found, [list(divmod(number, THOUSAND_MILLIONS)) for number in ROWS[n]])

    def test_written_out(self):
        self.assertEqual(ask_prime(97, "choose 0 0"), [0, 1])
        self.assertEqual(ask_prime(97, "choose 1 1"), [0, 1])
        self.assertEqual(ask_prime(97, "choose 5 2"), [0, 10])
        self.assertEqual(ask_prime(97, "choose 60 30"), [118264581, 564861424])


class Times(unittest.TestCase):
    def test_small_rows(self):
        for prime in PRIMES:
            for n in [0, 1, 2, 3, 4, 8, 9, 25, 48, 64, 96, 97, 98, 100, 119]:
                found = ask(f"begin {prime}", *[f"times {n} {k}" for k in range(min(n, 118) + 1)])[1:]
                self.assertEqual(found, [[divided_times(number, prime)] for number in ROWS[n][:119]])

    def test_rows_up_to_a_million(self):
        chooser = random.Random(3)
        places = [(1000000, k) for k in [0, 1, 2, 97, 500000, 999999, 1000000]]
        places += [(n, chooser.randrange(n + 1)) for n in [1024, 9409, 524288, 531441, 912673, 999999] * 9]
        for prime in PRIMES:
            for n, k in places:
                expected = product_often(n, prime) - product_often(k, prime) - product_often(n - k, prime)
                self.assertEqual(ask_prime(prime, f"times {n} {k}"), [expected])

    def test_written_out(self):
        self.assertEqual(ask_prime(2, "times 4 1"), [2])
        self.assertEqual(ask_prime(2, "times 4 2"), [1])
        self.assertEqual(ask_prime(97, "times 97 1"), [1])
        self.assertEqual(ask_prime(97, "times 96 48"), [0])
        self.assertEqual(ask_prime(2, "times 524288 1"), [19])


class RowOften(unittest.TestCase):
    def test_every_row_up_to_60(self):
        for prime in PRIMES:
            for n in range(61):
                expected = [n + 1] + [divided_times(number, prime) for number in ROWS[n]]
                self.assertEqual(ask_prime(prime, f"rowoften {n}"), expected)

    def test_written_out(self):
        self.assertEqual(ask_prime(2, "rowoften 0"), [1, 0])
        self.assertEqual(ask_prime(2, "rowoften 1"), [2, 0, 0])
        self.assertEqual(ask_prime(2, "rowoften 4"), [5, 0, 2, 1, 2, 0])
        self.assertEqual(ask_prime(5, "rowoften 5"), [6, 0, 1, 1, 1, 1, 0])


class Spared(unittest.TestCase):
    def test_every_row_up_to_200(self):
        for prime in PRIMES:
            for start in range(0, 201, 100):
                rows = range(start, min(start + 100, 201))
                found = ask(f"begin {prime}", *[f"spared {n}" for n in rows])[1:]
                expected = [sum(number % prime > 0 for number in ROWS[n]) for n in rows]
                self.assertEqual(found, [[spared, n + 1 - spared] for n, spared in zip(rows, expected)])

    def test_great_rows(self):
        self.assertEqual(ask_prime(2, "spared 1000000"), [128, 999873])
        self.assertEqual(ask_prime(97, "spared 1000000"), [28 * 28 * 10 * 2, 1000001 - 15680])
        self.assertEqual(ask_prime(2, "spared 524287"), [524288, 0])
        self.assertEqual(ask_prime(2, "spared 524288"), [2, 524287])
        self.assertEqual(ask_prime(3, "spared 531441"), [2, 531440])

    def test_written_out(self):
        self.assertEqual(ask_prime(2, "spared 0"), [1, 0])
        self.assertEqual(ask_prime(97, "spared 97"), [2, 96])
        self.assertEqual(ask_prime(97, "spared 96"), [97, 0])


class Whole(unittest.TestCase):
    def test_every_row_up_to_200(self):
        for prime in PRIMES:
            found = ask_many(prime, [f"whole {n}" for n in range(201)])
            self.assertEqual(found, [[int(all(often[1:-1]))] for often in OFTEN[prime]])

    def test_written_out(self):
        # Where there are no others the prime divides them all.
        self.assertEqual(ask_many(5, ["whole 0", "whole 1", "whole 2", "whole 4", "whole 5", "whole 6", "whole 25"]),
                         [[1], [1], [0], [0], [1], [0], [1]])
        self.assertEqual(ask_many(2, ["whole 2", "whole 3", "whole 6", "whole 128", "whole 200"]),
                         [[1], [0], [0], [1], [0]])
        self.assertEqual(ask_many(97, ["whole 96", "whole 97", "whole 98", "whole 194"]), [[0], [1], [0], [0]])


class NoneDivided(unittest.TestCase):
    def test_every_row_up_to_200(self):
        for prime in PRIMES:
            found = ask_many(prime, [f"none {n}" for n in range(201)])
            self.assertEqual(found, [[int(not any(often))] for often in OFTEN[prime]])

    def test_written_out(self):
        self.assertEqual(ask_many(2, ["none 0", "none 1", "none 2", "none 3", "none 127", "none 128"]),
                         [[1], [1], [0], [1], [1], [0]])
        self.assertEqual(ask_many(97, ["none 96", "none 97", "none 98", "none 193", "none 194"]),
                         [[1], [0], [0], [1], [0]])


class MostAndFirst(unittest.TestCase):
    def test_every_row_up_to_200(self):
        for prime in PRIMES:
            found = ask_many(prime, [f"most {n}" for n in range(201)])
            self.assertEqual(found, [[max(often)] for often in OFTEN[prime]])
            for n, answer in enumerate(ask_many(prime, [f"first {n}" for n in range(201)])):
                divided = [[k, often] for k, often in enumerate(OFTEN[prime][n]) if often > 0]
                self.assertEqual(answer, divided[0] if divided else [-33], (prime, n))

    def test_written_out(self):
        self.assertEqual(ask_many(2, ["most 0", "most 1", "most 128", "most 127", "most 200"]),
                         [[0], [0], [7], [0], [7]])
        self.assertEqual(ask_many(2, ["first 2", "first 4", "first 5", "first 128"]), [[1, 1], [1, 2], [2, 1], [1, 7]])
        self.assertEqual(ask_many(97, ["first 97", "first 98", "first 194"]), [[1, 1], [2, 1], [1, 1]])

    def test_it_divides_none(self):
        for n in [0, 1, 3, 127]:
            self.assertEqual(ask("begin 2", "down 1", f"first {n}", "told")[2:], [[-33], [2, 1, 1]])
        self.assertEqual(ask_many(97, ["first 96", "first 193"]), [[-33], [-33]])

    def test_a_row_too_great_comes_ahead_of_none(self):
        # Of rows 255 and 290 the primes divide none, too.
        self.assertEqual([ask_prime(2, "first 255"), ask_prime(97, "first 290")], [[-22], [-22]])


class JustSoOften(unittest.TestCase):
    def test_rows_up_to_200(self):
        for prime in PRIMES:
            rows = [0, 1, 2, prime - 1, prime, prime + 1, 60, 64, 81, 125, 128, 199, 200]
            calls = [f"with {n} {c}" for n in rows for c in range(9)]
            expected = [[OFTEN[prime][n].count(c)] for n in rows for c in range(9)]
            self.assertEqual(ask_many(prime, calls), expected)

    def test_any_number_of_times(self):
        for c in [201, 1000000, 1000001, GREATEST]:
            self.assertEqual(ask_prime(2, f"with 200 {c}"), [0])

    def test_written_out(self):
        self.assertEqual(ask_many(2, ["with 4 0", "with 4 1", "with 4 2", "with 4 3", "with 0 0", "with 0 1"]),
                         [[2], [1], [2], [0], [1], [0]])


class RowsTogether(unittest.TestCase):
    def test_every_bound_up_to_100(self):
        for prime in PRIMES:
            whole = [n for n in range(2, 101) if all(OFTEN[prime][n][1:-1])]
            bare = [n for n in range(101) if not any(OFTEN[prime][n])]
            spared = [OFTEN[prime][n].count(0) for n in range(101)]
            for name, found in [("rows", whole), ("bare", bare)]:
                expected = [[n for n in found if n <= bound] for bound in range(101)]
                self.assertEqual(ask_many(prime, [f"{name} {bound}" for bound in range(101)]),
                                 [[len(rows)] + rows for rows in expected])
            self.assertEqual(ask_many(prime, [f"below {bound}" for bound in range(101)]),
                             [[sum(spared[:bound + 1])] for bound in range(101)])

    def test_written_out(self):
        self.assertEqual(ask_many(2, ["rows 0", "rows 1", "rows 2", "rows 100"]),
                         [[0], [0], [1, 2], [6, 2, 4, 8, 16, 32, 64]])
        self.assertEqual(ask_many(97, ["rows 96", "rows 97", "rows 100"]), [[0], [1, 97], [1, 97]])
        self.assertEqual(ask_many(2, ["bare 0", "bare 1", "bare 100"]),
                         [[1, 0], [2, 0, 1], [7, 0, 1, 3, 7, 15, 31, 63]])
        self.assertEqual(ask_prime(3, "bare 10"), [5, 0, 1, 2, 5, 8])
        self.assertEqual(ask_prime(97, "bare 100"), [97] + list(range(97)))
        self.assertEqual(ask_many(2, ["below 0", "below 1", "below 2", "below 3", "below 63"]),
                         [[1], [3], [5], [9], [729]])
        self.assertEqual(ask_many(97, ["below 96", "below 97"]), [[97 * 49], [97 * 49 + 2]])


class Middle(unittest.TestCase):
    def test_rows_up_to_200(self):
        for prime in PRIMES:
            found = ask_many(prime, [f"middle {n}" for n in range(101)])
            self.assertEqual(found, [[OFTEN[prime][2 * n][n]] for n in range(101)])

    def test_rows_up_to_a_million(self):
        chooser = random.Random(5)
        numbers = [262143, 262144, 265720, 456336, 499999, 500000] + [chooser.randrange(500001) for _ in range(60)]
        for prime in PRIMES:
            expected = [[product_often(2 * n, prime) - 2 * product_often(n, prime)] for n in numbers]
            self.assertEqual(ask_many(prime, [f"middle {n}" for n in numbers]), expected)

    def test_written_out(self):
        self.assertEqual(ask_many(2, ["middle 0", "middle 1", "middle 2", "middle 3", "middle 262143"]),
                         [[0], [1], [1], [2], [18]])
        self.assertEqual(ask_many(97, ["middle 48", "middle 49", "middle 97"]), [[0], [1], [0]])


if __name__ == "__main__":
    unittest.main()
