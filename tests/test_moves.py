"""begin, prime, told; down, up, turn, mirror, go, next, back."""

import unittest

from tests.helper import (
    GREATEST, PRIMES, all_steps, ask, ask_way, mask_of, steps_of, triangle, ways_in_order,
)


class Begin(unittest.TestCase):
    def test_each_prime_below_100_and_nothing_else(self):
        for p in list(range(0, 131)) + [GREATEST, 4294967291]:
            expected = [p] if p in PRIMES else [-22]
            self.assertEqual(ask(f"begin {p}"), [expected], p)

    def test_a_way_without_steps(self):
        self.assertEqual(ask("begin 7", "told", "here"), [[7], [7, 0, 0], [0, 0, 1]])

    def test_again_the_way_is_new(self):
        self.assertEqual(ask_way(5, "101", "begin 97", "told", "here"), [[97], [97, 0, 0], [0, 0, 1]])

    def test_refused_again_it_changes_nothing(self):
        self.assertEqual(ask_way(5, "101", "begin 9", "told"), [[-22], [5, 3, 5]])

    def test_all_else_is_refused_ahead_of_it(self):
        self.assertEqual(ask("told", "begin 4", "told", "begin 2", "told"), [[-11], [-22], [-11], [2], [2, 0, 0]])


class Prime(unittest.TestCase):
    def test_answers_what_it_was_and_keeps_the_way(self):
        self.assertEqual(
            ask_way(2, "011", "prime 97", "prime 3", "told"), [[2], [97], [3, 3, 6]])

    def test_no_prime_below_100_changes_nothing(self):
        for q in [0, 1, 4, 91, 99, 100, 101, GREATEST]:
            self.assertEqual(ask_way(13, "10", f"prime {q}", "told"), [[-22], [13, 2, 1]], q)

    def test_each_prime_below_100(self):
        for q in PRIMES:
            self.assertEqual(ask("begin 2", f"prime {q}", "told"), [[2], [2], [q, 0, 0]])

    def test_it_isnt_a_begin(self):
        self.assertEqual(ask("prime 3", "told"), [[-11], [-11]])

    def test_stages_are_asked_of_the_new_one(self):
        self.assertEqual(ask("begin 2", "cross 10", "prime 3", "cross 10"), [[2], [2], [2], [2]])
        self.assertEqual(ask("begin 2", "digits 5", "prime 5", "digits 5"), [[2], [3, 1, 0, 1], [2], [2, 0, 1]])


class Told(unittest.TestCase):
    def test_every_way_of_up_to_six_steps(self):
        for count in range(7):
            for steps in all_steps(count):
                self.assertEqual(ask_way(3, steps, "told"), [[3, count, mask_of(steps)]])

    def test_24_steps(self):
        self.assertEqual(ask_way(3, "1" * 24, "told"), [[3, 24, 16777215]])
        self.assertEqual(ask_way(3, "0" * 23 + "1", "told"), [[3, 24, 8388608]])


class Down(unittest.TestCase):
    def test_row_and_place(self):
        self.assertEqual(ask("begin 2", "down 1", "down 0", "down 1"), [[2], [1, 1], [2, 1], [3, 2]])
        self.assertEqual(ask("begin 2", "down 0", "down 0"), [[2], [1, 0], [2, 0]])

    def test_above_1_it_changes_nothing(self):
        for r in [2, 3, GREATEST]:
            self.assertEqual(ask_way(2, "01", f"down {r}", "told"), [[-22], [2, 2, 2]])

    def test_24_steps_are_most(self):
        self.assertEqual(ask_way(2, "1" * 23, "down 0", "down 0", "down 1", "told"),
                         [[24, 23], [-28], [-28], [2, 24, 8388607]])

    def test_above_1_comes_first(self):
        self.assertEqual(ask_way(2, "1" * 24, "down 2", f"down {GREATEST}"), [[-22], [-22]])

    def test_there_is_room_again_behind_up(self):
        self.assertEqual(ask_way(2, "1" * 24, "down 0", "up", "down 0"), [[-28], [23, 23], [24, 23]])


class Up(unittest.TestCase):
    def test_the_last_step_is_gone(self):
        self.assertEqual(ask_way(2, "101", "up", "told", "up", "up", "told"),
                         [[2, 1], [2, 2, 1], [1, 1], [0, 0], [2, 0, 0]])

    def test_no_steps(self):
        self.assertEqual(ask("begin 3", "up", "told", "down 1"), [[3], [-6], [3, 0, 0], [1, 1]])


class Turn(unittest.TestCase):
    def test_every_turn_of_up_to_six_steps(self):
        for count in range(7):
            for steps in all_steps(count):
                for i in range(count + 2):
                    self.check_turn(list(steps), i)

    def check_turn(self, steps, i):
        turned = list(steps)
        if i + 1 < len(steps):
            turned[i], turned[i + 1] = steps[i + 1], steps[i]
        if turned == steps:
            expected = [-33]
        else:
            expected = [ways_in_order(len(steps), sum(steps)).index(mask_of(turned))]
        self.assertEqual(ask_way(2, steps, f"turn {i}", "told"), [expected, [2, len(steps), mask_of(turned)]])

    def test_no_turn(self):
        for i in [0, 2, 3, 4, GREATEST, GREATEST - 1]:
            self.assertEqual(ask_way(2, "1100", f"turn {i}", "told"), [[-33], [2, 4, 3]])
        self.assertEqual(ask("begin 2", "turn 0"), [[2], [-33]])

    def test_the_last_of_24_steps(self):
        self.assertEqual(ask_way(2, "0" * 22 + "10", "number", "turn 22", "turn 23"), [[22, 24], [23], [-33]])

    def test_the_number_grows_by_what_is_there_ahead_of_both(self):
        rows = triangle(8)
        for steps in all_steps(8):
            for i in range(7):
                if steps[i:i + 2] == (1, 0):
                    before, after = ask_way(2, steps, "number", f"turn {i}")
                    self.assertEqual(after[0], before[0] + rows[i][sum(steps[:i])])


class Mirror(unittest.TestCase):
    def test_every_way_of_up_to_seven_steps(self):
        for count in range(8):
            for steps in all_steps(count):
                turned = [1 - step for step in steps]
                number = ways_in_order(count, sum(turned)).index(mask_of(turned))
                self.assertEqual(ask_way(5, steps, "mirror", "told"),
                                 [[sum(turned), number], [5, count, mask_of(turned)]])

    def test_no_steps(self):
        self.assertEqual(ask("begin 2", "mirror", "told"), [[2], [0, 0], [2, 0, 0]])

    def test_twice_is_the_same_way(self):
        steps = "110100011101001010110011"
        self.assertEqual(len(steps), 24)
        before, _, _, after = ask_way(3, steps, "told", "mirror", "mirror", "told")
        self.assertEqual(before, after)
        self.assertEqual(before, [3, 24, mask_of(steps)])

    def test_as_many_ways_divided_as_often_and_numbers_run_the_other_way(self):
        for prime in [2, 3, 5]:
            for steps in all_steps(7):
                found = ask_way(prime, steps, "number", "often", "left", "mirror", "number", "often", "left")
                self.assertEqual(found[4][1], found[0][1])
                self.assertEqual(found[4][0], found[0][1] - 1 - found[0][0])
                self.assertEqual(found[5:], found[1:3])


class Go(unittest.TestCase):
    def test_every_number_to_every_place_of_up_to_seven_steps(self):
        for count in range(8):
            for place in range(count + 1):
                for number, mask in enumerate(ways_in_order(count, place)):
                    rights = [i for i, step in enumerate(steps_of(mask, count)) if step]
                    self.assertEqual(
                        ask_way(2, "0" * count, f"go {place} {number}", "told", "number"),
                        [[place] + rights, [2, count, mask], [number, len(ways_in_order(count, place))]])

    def test_there_is_no_such_way(self):
        for call in ["go 2 6", f"go 2 {GREATEST}", "go 0 1", "go 4 1", "go 5 0", f"go {GREATEST} 0",
                     f"go {GREATEST} {GREATEST}"]:
            self.assertEqual(ask_way(2, "1100", call, "told"), [[-33], [2, 4, 3]], call)

    def test_no_steps(self):
        self.assertEqual(ask("begin 2", "go 0 0", "go 0 1", "go 1 0"), [[2], [0], [-33], [-33]])

    def test_24_steps(self):
        self.assertEqual(ask_way(2, "0" * 24, "go 12 2704155", "go 12 2704156", "told"),
                         [[12] + list(range(12, 24)), [-33], [2, 24, 16773120]])
        self.assertEqual(ask_way(2, "0" * 24, "go 12 0", "told"), [[12] + list(range(12)), [2, 24, 4095]])
        self.assertEqual(ask_way(2, "0" * 24, "go 24 0", "told"), [[24] + list(range(24)), [2, 24, 16777215]])

    def test_some_numbers_of_24_steps_come_back(self):
        for number in range(0, 2704156, 98765):
            self.assertEqual(ask_way(2, "0" * 24, f"go 12 {number}", "number")[1], [number, 2704156])


class NextAndBack(unittest.TestCase):
    def test_through_all_ways_to_each_place(self):
        for count in range(8):
            for place in range(count + 1):
                masks = ways_in_order(count, place)
                start = steps_of(masks[0], count)
                on = ask_way(2, start, *["next", "told"] * len(masks))
                self.assertEqual(on[1::2], [[2, count, mask] for mask in masks[1:] + masks[-1:]])
                self.assertEqual(on[0::2], [rights(mask, count) for mask in masks[1:]] + [[-33]])
                end = steps_of(masks[-1], count)
                back = ask_way(2, end, *["back", "told"] * len(masks))
                masks.reverse()
                self.assertEqual(back[1::2], [[2, count, mask] for mask in masks[1:] + masks[-1:]])
                self.assertEqual(back[0::2], [rights(mask, count) for mask in masks[1:]] + [[-33]])

    def test_the_only_way_is_first_and_last(self):
        for steps in ["", "0", "1", "0" * 24, "1" * 24]:
            self.assertEqual(ask_way(2, steps, "next", "back", "told"),
                             [[-33], [-33], [2, len(steps), mask_of(steps)]])

    def test_24_steps(self):
        self.assertEqual(ask_way(2, "0" * 12 + "1" * 12, "next", "back", "number", "next", "next"),
                         [[-33], [12, 11] + list(range(13, 24)), [2704154, 2704156],
                          [12] + list(range(12, 24)), [-33]])
        self.assertEqual(ask_way(2, "1" * 12 + "0" * 12, "back", "next", "number", "back", "back"),
                         [[-33], [12] + list(range(11)) + [12], [1, 2704156],
                          [12] + list(range(12)), [-33]])


def rights(mask, count):
    found = [i for i, step in enumerate(steps_of(mask, count)) if step]
    return [len(found)] + found


if __name__ == "__main__":
    unittest.main()
