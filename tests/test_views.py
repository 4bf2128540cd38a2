"""here, number, often, left, divided, avoid, clean, turnsto, together, behind, best."""

import itertools
import unittest

from tests.helper import (
    GREATEST, PRIMES, all_steps, ask, ask_way, divided_times, mask_of, triangle, ways_in_order,
)

ROWS = triangle(25)
MIXED = "110100011101001010110011"


def places(steps):
    return [sum(int(step) for step in steps[:row]) for row in range(len(steps) + 1)]


def there(steps):
    """What's there behind 0 steps, 1 step, and so on to all."""
    return [ROWS[row][place] for row, place in enumerate(places(steps))]


def avoids(steps, prime):
    return all(number % prime > 0 for number in there(steps))


def ways_avoiding(row, place, prime):
    return sum(avoids(steps, prime) for steps in all_steps(row) if sum(steps) == place)


def ways_shifted(count):
    """The way's corners and some more, of so many steps."""
    return ["0" * count, "1" * count, ("01" * count)[:count], ("110" * count)[:count], MIXED[:count]]


class HereAndNumber(unittest.TestCase):
    def test_every_way_of_up_to_seven_steps(self):
        for count in range(8):
            for steps in all_steps(count):
                place = sum(steps)
                number = ways_in_order(count, place).index(mask_of(steps))
                self.assertEqual(ask_way(3, steps, "here", "number"),
                                 [[count, place, ROWS[count][place]], [number, ROWS[count][place]]])

    def test_no_steps(self):
        self.assertEqual(ask("begin 2", "here", "number"), [[2], [0, 0, 1], [0, 1]])

    def test_all_to_one_side(self):
        self.assertEqual(ask_way(2, "0" * 24, "here", "number"), [[24, 0, 1], [0, 1]])
        self.assertEqual(ask_way(2, "1" * 24, "here", "number"), [[24, 24, 1], [0, 1]])

    def test_first_and_last_of_24_steps(self):
        self.assertEqual(ask_way(2, "1" * 12 + "0" * 12, "here", "number"), [[24, 12, 2704156], [0, 2704156]])
        self.assertEqual(ask_way(2, "0" * 12 + "1" * 12, "number"), [[2704155, 2704156]])

    def test_a_way_written_out(self):
        # Right, left, right, right, left: things 0, 2 and 3 of five; 10 ways, the third of these.
        self.assertEqual(ask_way(2, "10110", "here", "number"), [[5, 3, 10], [2, 10]])


class OftenLeftBehind(unittest.TestCase):
    def test_every_way_of_up_to_six_steps(self):
        for prime in [2, 3, 5, 97]:
            for count in range(7):
                for steps in all_steps(count):
                    number = ROWS[count][sum(steps)]
                    self.assertEqual(ask_way(prime, steps, "often", "left"),
                                     [[divided_times(number, prime)], [number % prime]])

    def test_24_steps_to_every_place(self):
        for prime in PRIMES:
            for place in range(25):
                number = ROWS[24][place]
                self.assertEqual(ask_way(prime, "1" * place + "0" * (24 - place), "often", "left"),
                                 [[divided_times(number, prime)], [number % prime]])

    def test_the_primes_row(self):
        for prime in [2, 3, 5, 7, 11, 13, 17, 19, 23]:
            self.assertEqual(ask_way(prime, "1" + "0" * (prime - 1), "often", "left"), [[1], [0]])
            self.assertEqual(ask_way(prime, "0" * prime, "often", "left"), [[0], [1]])

    def test_behind_each_number_of_steps(self):
        for prime in [2, 5, 97]:
            for steps in ways_shifted(24) + ways_shifted(7) + [""]:
                calls = [f"behind {i}" for i in range(len(steps) + 1)]
                expected = [[place, number % prime] for place, number in zip(places(steps), there(steps))]
                self.assertEqual(ask_way(prime, steps, *calls), expected)

    def test_behind_more_steps_than_there_are(self):
        self.assertEqual(ask("begin 2", "behind 0", "behind 1"), [[2], [0, 1], [-22]])
        for i in [4, 25, GREATEST]:
            self.assertEqual(ask_way(2, "101", f"behind {i}", "told"), [[-22], [2, 3, 5]])
        self.assertEqual(ask_way(2, "1" * 24, "behind 24", "behind 25"), [[24, 1], [-22]])


class Divided(unittest.TestCase):
    def test_every_way_of_up_to_seven_steps(self):
        for prime in [2, 3, 7]:
            for count in range(8):
                for steps in all_steps(count):
                    rows = [row for row, number in enumerate(there(steps)) if number % prime == 0]
                    self.assertEqual(ask_way(prime, steps, "divided"), [[len(rows)] + rows])

    def test_corners(self):
        self.assertEqual(ask("begin 2", "divided"), [[2], [0]])
        self.assertEqual(ask_way(2, "0" * 24, "divided"), [[0]])
        self.assertEqual(ask_way(2, "1" * 24, "divided"), [[0]])
        # Touched once: place 1 of row 2 holds 2, place 1 of row 3 holds 3.
        self.assertEqual(ask_way(2, "100", "divided", "clean"), [[1, 2], [0, 1]])

    def test_24_steps(self):
        for prime in PRIMES:
            for steps in ways_shifted(24):
                rows = [row for row, number in enumerate(there(steps)) if number % prime == 0]
                self.assertEqual(ask_way(prime, steps, "divided"), [[len(rows)] + rows])


class Best(unittest.TestCase):
    def expected(self, steps, prime):
        row = ROWS[len(steps) + 1]
        place = places(steps)[-1]
        to_left = divided_times(row[place], prime)
        to_right = divided_times(row[place + 1], prime)
        return [0, to_left] if to_left <= to_right else [1, to_right]

    def test_every_way_of_up_to_seven_steps(self):
        for prime in [2, 3, 5]:
            for count in range(8):
                for steps in all_steps(count):
                    self.assertEqual(ask_way(prime, steps, "best"), [self.expected(steps, prime)])

    def test_behind_the_last_step_that_may_be(self):
        for prime in PRIMES:
            for place in range(25):
                steps = "1" * place + "0" * (24 - place)
                self.assertEqual(ask_way(prime, steps, "best"), [self.expected(steps, prime)])

    def test_written_out(self):
        # Row 4 is 1 4 6 4 1: from place 1 of row 3 to the right 6, which 2 divides once, to the left 4.
        self.assertEqual(ask_way(2, "100", "best"), [[1, 1]])
        self.assertEqual(ask_way(2, "110", "best"), [[0, 1]])
        self.assertEqual(ask("begin 2", "best"), [[2], [0, 0]])


class Avoid(unittest.TestCase):
    def test_every_place_of_up_to_nine_rows(self):
        for prime in [2, 3, 5, 7, 97]:
            for row in range(10):
                calls = [f"avoid {row} {place}" for place in range(row + 1)]
                expected = [[ways_avoiding(row, place, prime), ROWS[row][place]] for place in range(row + 1)]
                self.assertEqual(ask(f"begin {prime}", *calls)[1:], expected)

    def test_row_24(self):
        for prime in [2, 3, 5, 7, 23]:
            for place in [0, 1, 8, 12, 16, 23, 24]:
                self.assertEqual(ask(f"begin {prime}", f"avoid 24 {place}")[1],
                                 [self.by_rows(24, place, prime), ROWS[24][place]])

    def by_rows(self, row, place, prime):
        """Ways from above, a place at a time; those the prime divides lead nowhere."""
        counts = {(0, 0): 1}
        for r, k in itertools.product(range(1, row + 1), range(row + 1)):
            if k <= r and ROWS[r][k] % prime > 0:
                counts[r, k] = counts.get((r - 1, k), 0) + counts.get((r - 1, k - 1), 0)
        return counts.get((row, place), 0)

    def test_no_prime_divides_anything(self):
        self.assertEqual(ask("begin 97", "avoid 24 12", "avoid 0 0"), [[97], [2704156, 2704156], [1, 1]])

    def test_some_way_avoids_just_where_the_prime_doesnt_divide(self):
        for prime in PRIMES[:9]:
            places_asked = [(row, place) for row in range(25) for place in range(row + 1)]
            for start in range(0, len(places_asked), 100):
                chunk = places_asked[start:start + 100]
                found = ask(f"begin {prime}", *[f"avoid {row} {place}" for row, place in chunk])[1:]
                for (row, place), answer in zip(chunk, found):
                    self.assertEqual(answer[0] > 0, ROWS[row][place] % prime > 0)

    def test_no_such_place(self):
        for call in ["avoid 25 0", "avoid 25 25", "avoid 24 25", "avoid 0 1", "avoid 5 6",
                     f"avoid {GREATEST} 0", f"avoid 24 {GREATEST}", f"avoid {GREATEST} {GREATEST}"]:
            self.assertEqual(ask_way(2, "101", call, "told"), [[-22], [2, 3, 5]], call)

    def test_it_isnt_asked_of_the_way(self):
        self.assertEqual(ask_way(2, "1101", "avoid 2 1", "avoid 3 1", "told"), [[0, 2], [1, 3], [2, 4, 11]])


class Clean(unittest.TestCase):
    def test_every_way_of_up_to_seven_steps(self):
        for prime in [2, 3, 5, 97]:
            for count in range(8):
                for steps in all_steps(count):
                    expected = [int(avoids(steps, prime)), ways_avoiding(count, sum(steps), prime)]
                    self.assertEqual(ask_way(prime, steps, "clean"), [expected])

    def test_24_steps(self):
        self.assertEqual(ask_way(2, "1" * 24, "clean"), [[1, 1]])
        self.assertEqual(ask_way(97, MIXED, "clean"), [[1, ROWS[24][MIXED.count("1")]]])
        self.assertEqual(ask_way(2, MIXED, "clean")[0][0], 0)

    def test_no_steps(self):
        self.assertEqual(ask("begin 2", "clean"), [[2], [1, 1]])


class TurnsTo(unittest.TestCase):
    def fewest(self, steps):
        """How many turns each way to the same place needs, found turn by turn."""
        found = {tuple(steps): 0}
        waiting = [tuple(steps)]
        for at in waiting:
            for i in range(len(at) - 1):
                turned = at[:i] + (at[i + 1], at[i]) + at[i + 2:]
                if turned not in found:
                    found[turned] = found[at] + 1
                    waiting.append(turned)
        return found

    def test_by_no_fewer_from_every_way_to_every_way(self):
        for count in range(7):
            for steps in all_steps(count):
                fewest = self.fewest(steps)
                calls = [f"turnsto {mask_of(other)}" for other in fewest]
                self.assertEqual(ask_way(2, steps, *calls), [[turns] for turns in fewest.values()])

    def test_no_way_to_the_same_place(self):
        for m in [0, 1, 7, 15, 16 + 1, 32 + 16, 2 ** 31 + 1, GREATEST]:
            self.assertEqual(ask_way(2, "1100", f"turnsto {m}", "told"), [[-22], [2, 4, 3]], m)

    def test_no_steps(self):
        self.assertEqual(ask("begin 2", "turnsto 0", "turnsto 1"), [[2], [0], [-22]])

    def test_24_steps(self):
        self.assertEqual(ask_way(2, "1" * 12 + "0" * 12, "turnsto 16773120", "turnsto 4095", "turnsto 16777216"),
                         [[144], [0], [-22]])


class Together(unittest.TestCase):
    def test_every_two_ways_of_up_to_five_steps(self):
        for count in range(6):
            for steps in all_steps(count):
                for other in all_steps(count):
                    rows = [row for row, (mine, its) in enumerate(zip(places(steps), places(other))) if mine == its]
                    self.assertEqual(ask_way(2, steps, f"together {mask_of(other)}"), [[len(rows)] + rows])

    def test_no_way_of_as_many_steps(self):
        for m in [8, 9, 16, GREATEST]:
            self.assertEqual(ask_way(2, "101", f"together {m}", "together 7"), [[-22], [2, 0, 1]], m)
        self.assertEqual(ask("begin 2", "together 0", "together 1"), [[2], [1, 0], [-22]])

    def test_24_steps(self):
        self.assertEqual(ask_way(2, "1" * 24, "together 16777215", "together 16777216", "together 0"),
                         [[25] + list(range(25)), [-22], [1, 0]])


if __name__ == "__main__":
    unittest.main()
