"""The calls of "Rows divided", asked of the row in which the way stands."""

import functools
import math
import unittest

from choicetriangle.forms import in_three, in_two
from tests.helper import GREATEST, ask, ask_way, triangle

ROWS = triangle(50)
EVERY_ROW = range(25)
THOUSAND_MILLIONS = 10 ** 9
PRIMES_UP_TO_24 = [2, 3, 5, 7, 11, 13, 17, 19, 23]
# Whatever prime and way it is, the row's number alone counts.
ASKED = ["at 0", "greatest", "least", "upto", "shared 0 1", "star 1", "starproduct 1", "hermite 1",
         "dividing 1", "great 1", "places 6", "even", "fewest", "sum 1", "squares", "stick 1"]


def steps_to(row):
    """A way to that row, to the right and to the left by turns."""
    return ("10" * 12)[:row]


def ask_row(row, *calls):
    found = []
    for start in range(0, len(calls), 80):
        found += ask_way(2, steps_to(row), *calls[start:start + 80])
    return found


def great(number):
    return [number // THOUSAND_MILLIONS, number % THOUSAND_MILLIONS]


def huge(number):
    return [number // 10 ** 18, number // THOUSAND_MILLIONS % THOUSAND_MILLIONS, number % THOUSAND_MILLIONS]


def counted(found):
    return [len(found)] + found


def greatest_of(row):
    """The greatest number that divides all but the ends, found by trying."""
    inner = ROWS[row][1:-1]
    return max(d for d in range(1, min(inner) + 1) if all(number % d == 0 for number in inner))


class Refusals(unittest.TestCase):
    def refuse(self, row, *calls):
        for call in calls:
            steps = steps_to(row)
            told = ask_way(2, steps, "told")[0]
            self.assertEqual(ask_way(2, steps, call, "told"), [[-22], told], (row, call))

    def test_a_place_that_isnt_of_the_row(self):
        for row in [0, 1, 2, 7, 24]:
            for k in [row + 1, row + 2, 41, GREATEST]:
                self.refuse(row, f"at {k}", f"shared {k} 0", f"shared 0 {k}", f"shared {k} {k}", f"star {k}",
                            f"starproduct {k}", f"hermite {k}", f"dividing {k}", f"great {k}", f"sum {k}", f"stick {k}")

    def test_no_place_inside_the_row(self):
        for row in EVERY_ROW:
            self.refuse(row, "star 0", "starproduct 0", f"star {row}", f"starproduct {row}", "hermite 0")
        self.refuse(0, "star 1", "starproduct 1", "hermite 1")

    def test_no_number_that_may_be_sought(self):
        for row in [0, 5, 24]:
            self.refuse(row, "places 0", "places 1", "places 1000001", f"places {GREATEST}")

    def test_the_last_place_is_let_through(self):
        for row in EVERY_ROW:
            for call in [f"at {row}", f"shared {row} {row}", f"dividing {row}", f"sum {row}", f"stick {row}"]:
                self.assertGreaterEqual(ask_row(row, call)[0][0], 0, (row, call))
            if row > 0:
                self.assertGreater(ask_row(row, f"hermite {row}")[0][0], 0)
            if row > 1:
                self.assertGreater(ask_row(row, f"star {row - 1}")[0][0], 0)
                self.assertEqual(ask_row(row, f"starproduct {row - 1}"), [[1]])

    def test_a_million_is_sought(self):
        self.assertEqual(ask_row(0, "places 1000000", "places 2"), [[0], [1, 2, 1]])

    def test_great_no_such_place_comes_first(self):
        # Where there's no place nothing divides what's there either.
        self.assertEqual(ask_row(5, "great 6", "great 5", "great 0"), [[-22], [-33], [-33]])

    def test_rows_0_and_1_have_nothing_but_ends(self):
        # -33 comes ahead of -6: no place of theirs shares anything either.
        for row in [0, 1]:
            told = ask_row(row, "told")[0]
            self.assertEqual(ask_row(row, "greatest", "told", "fewest", "told"), [[-33], told, [-33], told])

    def test_the_others_of_rows_0_and_1(self):
        self.assertEqual(ask_row(0, "least", "upto", "even", "squares", "sum 0", "stick 0", "at 0", "dividing 0"),
                         [[0, 0, 1], [0, 0, 1], [0], [0, 0, 1], [0, 0, 1], [0, 1], [0, 1], [0]])
        self.assertEqual(ask_row(1, "least", "upto", "even", "squares", "sum 0", "sum 1", "stick 0", "stick 1", "at 1"),
                         [[0, 0, 1], [0, 0, 2], [0], [0, 0, 2], [0, 0, 1], [0, 0, 2], [0, 2], [0, 1], [0, 1]])


class AtAndSums(unittest.TestCase):
    def test_every_place_of_every_row(self):
        for row in EVERY_ROW:
            places = range(row + 1)
            self.assertEqual(ask_row(row, *[f"at {k}" for k in places]), [great(number) for number in ROWS[row]])
            self.assertEqual(ask_row(row, *[f"sum {k}" for k in places]),
                             [huge(sum(ROWS[row][:k + 1])) for k in places])
            self.assertEqual(ask_row(row, *[f"stick {k}" for k in places]),
                             [great(sum(ROWS[n][k] for n in range(k, row + 1))) for k in places])
            self.assertEqual(ask_row(row, "squares"), [huge(sum(number ** 2 for number in ROWS[row]))])

    def test_what_holds(self):
        for row in EVERY_ROW:
            # The middle of the double row; all of a stick are the one below its end.
            self.assertEqual(ask_row(row, "squares"), [huge(math.comb(2 * row, row))])
            self.assertEqual(ask_row(row, f"stick {row // 2}"), [great(math.comb(row + 1, row // 2 + 1))])

    def test_written_out(self):
        self.assertEqual(ask_row(24, "at 12", "at 0", "at 24", "sum 24", "sum 11", "squares", "stick 12"),
                         [[0, 2704156], [0, 1], [0, 1], [0, 0, 16777216], [0, 0, 7036530],
                          [0, 32247, 603683100], [0, 5200300]])
        self.assertEqual(ask_row(4, "at 2", "sum 2", "squares", "stick 2"), [[0, 6], [0, 0, 11], [0, 0, 70], [0, 10]])


class Dividing(unittest.TestCase):
    def test_greatest(self):
        for row in range(2, 25):
            self.assertEqual(ask_row(row, "greatest"), [[greatest_of(row)]])

    def test_greatest_of_a_prime_its_power_and_neither(self):
        self.assertEqual([ask_row(row, "greatest")[0] for row in [2, 3, 4, 6, 7, 9, 12, 16, 23, 24]],
                         [[2], [3], [2], [1], [7], [3], [1], [2], [23], [1]])

    def test_least_and_upto(self):
        for row in EVERY_ROW:
            least = functools.reduce(math.lcm, ROWS[row])
            upto = functools.reduce(math.lcm, range(1, row + 2))
            self.assertEqual(ask_row(row, "least", "upto"), [huge(least), huge(upto)])
            self.assertEqual(least * (row + 1), upto)

    def test_least_and_upto_written_out(self):
        self.assertEqual(ask_row(4, "least", "upto"), [[0, 0, 12], [0, 0, 60]])
        self.assertEqual(ask_row(24, "least", "upto"), [[0, 1, 70845776], [0, 26, 771144400]])

    def test_shared_of_every_two_places(self):
        for row in [0, 1, 2, 3, 6, 9, 12, 23, 24]:
            pairs = [(j, k) for j in range(row + 1) for k in range(row + 1)]
            found = ask_row(row, *[f"shared {j} {k}" for j, k in pairs])
            self.assertEqual(found, [great(math.gcd(ROWS[row][j], ROWS[row][k])) for j, k in pairs])

    def test_shared_written_out(self):
        self.assertEqual(ask_row(6, "shared 1 2", "shared 2 3", "shared 3 3", "shared 0 3", "shared 6 3"),
                         [[0, 3], [0, 5], [0, 20], [0, 1], [0, 1]])

    def test_primes_dividing(self):
        for row in EVERY_ROW:
            dividing = []
            for number in ROWS[row]:
                dividing.append([q for q in PRIMES_UP_TO_24 if q <= row and number % q == 0])
            places = range(row + 1)
            self.assertEqual(ask_row(row, *[f"dividing {k}" for k in places]), [counted(found) for found in dividing])
            expected = [[found[-1], int(found[-1] > k)] if found else [-33] for k, found in enumerate(dividing)]
            self.assertEqual(ask_row(row, *[f"great {k}" for k in places]), expected)

    def test_primes_written_out(self):
        self.assertEqual(ask_row(6, "dividing 3", "great 3", "dividing 0", "great 0"), [[2, 2, 5], [5, 1], [0], [-33]])
        # At places 5 and 1 of row 6 there's 6: 3 isn't above 5, but above 1.
        self.assertEqual(ask_row(6, "great 5", "great 1", "great 6"), [[3, 0], [3, 1], [-33]])
        self.assertEqual(ask_row(3, "great 2", "dividing 2"), [[3, 1], [1, 3]])
        self.assertEqual(ask_row(4, "great 2", "great 3"), [[3, 1], [2, 0]])
        # 84 at place 3 of row 9, 120 at places 3 and 7 of row 10.
        self.assertEqual(ask_row(9, "great 3", "dividing 3"), [[7, 1], [3, 2, 3, 7]])
        self.assertEqual(ask_row(10, "great 3", "great 7"), [[5, 1], [5, 0]])
        self.assertEqual(ask_row(24, "great 1", "great 2", "great 23"), [[3, 1], [23, 1], [3, 0]])


class Around(unittest.TestCase):
    def test_every_place_inside_every_row(self):
        for row in range(2, 25):
            for k in range(1, row):
                three = [ROWS[row - 1][k - 1], ROWS[row][k + 1], ROWS[row + 1][k]]
                others = [ROWS[row - 1][k], ROWS[row + 1][k + 1], ROWS[row][k - 1]]
                self.assertEqual(math.prod(three), math.prod(others))
                self.assertEqual(ask_row(row, f"star {k}", f"starproduct {k}"),
                                 [[math.gcd(*three), math.gcd(*others)], [1]])

    def test_written_out(self):
        # Around place 2 of row 6: 5, 20, 21 and 10, 35, 6.
        self.assertEqual(ask_row(6, "star 2", "starproduct 2"), [[1, 1], [1]])
        # Around place 2 of row 8: 7, 56, 36 and 21, 84, 8; around place 4: 35, 56, 126 and 35, 126, 56.
        self.assertEqual(ask_row(8, "star 2", "star 4"), [[1, 1], [7, 7]])
        self.assertEqual(ask_row(2, "star 1", "starproduct 1"), [[1, 1], [1]])


class Hermite(unittest.TestCase):
    def test_every_place_of_every_row(self):
        for row in range(1, 25):
            expected = []
            for k in range(1, row + 1):
                part = row // math.gcd(row, k)
                self.assertEqual(ROWS[row][k] % part, 0)
                expected.append([part] + great(ROWS[row][k] // part))
            self.assertEqual(ask_row(row, *[f"hermite {k}" for k in range(1, row + 1)]), expected)

    def test_written_out(self):
        self.assertEqual(ask_row(6, "hermite 2", "hermite 3", "hermite 5", "hermite 6"),
                         [[3, 0, 5], [2, 0, 10], [6, 0, 1], [1, 0, 1]])
        self.assertEqual(ask_row(24, "hermite 12", "hermite 11"), [[2, 0, 1352078], [24, 0, 104006]])


class Places(unittest.TestCase):
    def expected(self, v):
        return [[n, k] for n in range(41) for k in range(n + 1) if ROWS[n][k] == v]

    def test_numbers_up_to_a_thousand_and_all_that_are_there(self):
        there = sorted({number for row in ROWS[:43] for number in row if 2 <= number <= 1000000})
        for v in sorted(set(there + list(range(2, 1001)))):
            expected = self.expected(v)
            found = ask("begin 2", f"places {v}")[1]
            self.assertEqual(found, [len(expected)] + [number for pair in expected for number in pair], v)

    def test_a_number_in_four_places(self):
        self.assertEqual(ask_row(0, "places 10"), [[4, 5, 2, 5, 3, 10, 1, 10, 9]])

    def test_rows_0_to_40_in_whichever_row_the_way_stands(self):
        for row in [0, 7, 24]:
            self.assertEqual(ask_row(row, "places 40", "places 41", "places 2", "places 120"),
                             [[2, 40, 1, 40, 39], [0], [1, 2, 1], [4, 10, 3, 10, 7, 16, 2, 16, 14]])
        self.assertEqual(ask_row(3, "places 780", "places 820"), [[2, 40, 2, 40, 38], [0]])


class Even(unittest.TestCase):
    def test_every_row(self):
        for row in EVERY_ROW:
            numbers = ROWS[row]
            expected = [k for k in range(row + 1)
                        if k + 2 <= row and numbers[k] + numbers[k + 2] == 2 * numbers[k + 1]]
            self.assertEqual(ask_row(row, "even"), [counted(expected)], row)

    def test_written_out(self):
        # 7, 21, 35; 1001, 2002, 3003; in row 2 it's 1, 2, 1.
        self.assertEqual([ask_row(row, "even")[0] for row in [0, 1, 2, 3, 7, 14, 23, 24]],
                         [[0], [0], [0], [0], [2, 1, 4], [2, 4, 8], [2, 8, 13], [0]])


class Fewest(unittest.TestCase):
    def expected(self, row):
        numbers = ROWS[row]
        found = [k for k in range(1, row) for j in range(k + 1, row)
                 if math.gcd(numbers[k], numbers[j]) == greatest_of(row)]
        return found[:1] or [-6]

    def test_every_row(self):
        for row in range(2, 25):
            told = ask_row(row, "told")[0]
            self.assertEqual(ask_row(row, "fewest", "told"), [self.expected(row), told], row)

    def test_written_out(self):
        # Place 1 of row 2 has none behind it but the last one; of row 6 each two share more than 1.
        self.assertEqual([ask_row(row, "fewest")[0] for row in [0, 1, 2, 3, 4, 6, 9, 23, 24]],
                         [[-33], [-33], [-6], [1], [1], [-6], [1], [1], [-6]])


class OfTheRow(unittest.TestCase):
    def test_neither_the_prime_nor_the_place_says_anything(self):
        for row in [0, 1, 5, 12, 24]:
            expected = ask_way(2, "0" * row, *ASKED)
            for prime, steps in [(97, "0" * row), (2, "1" * row), (5, steps_to(row))]:
                self.assertEqual(ask_way(prime, steps, *ASKED), expected)

    def test_the_row_in_which_the_way_stands_now(self):
        self.assertEqual(ask("begin 2", "down 1", "down 1", "at 1", "down 0", "at 1", "up", "at 1", "begin 3", "at 0"),
                         [[2], [1, 1], [2, 2], [0, 2], [3, 2], [0, 3], [2, 2], [0, 2], [3], [0, 1]])


class Forms(unittest.TestCase):
    def test_great_and_huge_numbers(self):
        # No row that a way comes to has so great ones.
        for number in [0, 1, 999999999, 10 ** 9, 10 ** 18 - 1, 10 ** 18, 123456789012345678901234567]:
            self.assertEqual(in_two(number), great(number))
            self.assertEqual(in_three(number), huge(number))
        self.assertEqual(in_three(2 * 10 ** 18 + 3 * 10 ** 9 + 4), [2, 3, 4])


if __name__ == "__main__":
    unittest.main()
