"""The calls of "Choices in order": the steps are the things, those to the right are chosen."""

import math
import unittest

from tests.helper import (
    GREATEST, all_steps, ask, ask_way, mask_of, steps_of, ways_in_order,
)

MIXED = "110100011101001010110011"


def things(mask):
    return [i for i in range(mask.bit_length()) if mask >> i & 1]


def ones(mask):
    return bin(mask).count("1")


def by_exchanges(count, k):
    """All choices of k of so many things, in the order that the document tells."""
    if k == 0:
        return [0]
    if count == 0:
        return []
    with_the_last = [mask + 2 ** (count - 1) for mask in by_exchanges(count - 1, k - 1)]
    return by_exchanges(count - 1, k) + with_the_last[::-1]


def refused(prime, steps, call):
    """The refusal; what's told ahead of it and behind it must be the same."""
    before, found, behind = ask_way(prime, steps, "told", call, "told")
    assert before == behind, call
    assert len(found) == 1, call
    return found[0]


def ask_things(steps, calls):
    """The answers to the calls, however many, behind those steps."""
    found = []
    for start in range(0, len(calls), 90):
        found += ask_way(2, steps, *calls[start:start + 90])
    return found


class Choice(unittest.TestCase):
    def test_every_choice_of_up_to_nine_things(self):
        for count in range(10):
            for k in range(count + 1):
                choices = ways_in_order(count, k)
                found = ask_things("1" * count, [f"choice {k} {r}" for r in range(len(choices))])
                self.assertEqual(found, [[mask] + things(mask) for mask in choices])

    def test_a_number_thats_just_too_great(self):
        for count in list(range(10)) + [24]:
            for k in range(count + 1):
                most = math.comb(count, k)
                found = ask_way(2, "0" * count, *[f"choice {k} {r}" for r in [most - 1, most, GREATEST]])
                # The last one chooses the last things.
                self.assertEqual(found, [[2 ** count - 2 ** (count - k)] + list(range(count - k, count)), [-33], [-33]])

    def test_none_of_more_things_than_there_are(self):
        for count in [0, 1, 5, 24]:
            for k in [count + 1, 25, 33, GREATEST]:
                self.assertEqual(refused(2, "1" * count, f"choice {k} 0"), -33)
                self.assertEqual(refused(2, "1" * count, f"choice {k} {GREATEST}"), -33)

    def test_24_things(self):
        found = ask_way(2, MIXED, "choice 12 0", "choice 12 2704155", "choice 0 0", "choice 24 0", "choice 1 23")
        self.assertEqual(found, [[4095] + list(range(12)), [16773120] + list(range(12, 24)), [0],
                                 [16777215] + list(range(24)), [8388608, 23]])
        for r in [1, 999999, 1352077, 1352078, 2704154]:
            mask = ask_way(2, MIXED, f"choice 12 {r}")[0][0]
            self.assertEqual(ask_way(2, steps_of(mask, 24), "number"), [[r, 2704156]])

    def test_it_isnt_chosen(self):
        self.assertEqual(ask_way(5, "101", "choice 1 2", "told"), [[4, 2], [5, 3, 5]])

    def test_no_things(self):
        self.assertEqual(ask("begin 2", "choice 0 0", "choice 0 1", "choice 1 0"), [[2], [0], [-33], [-33]])


class Between(unittest.TestCase):
    def test_every_two_choices_of_up_to_six_things(self):
        for count in range(7):
            for steps in all_steps(count):
                choices = ways_in_order(count, sum(steps))
                mine = choices.index(mask_of(steps))
                found = ask_things(steps, [f"between {m}" for m in choices])
                self.assertEqual(found, [[0, number - mine] for number in range(len(choices))])

    def test_no_choice_of_as_many_things(self):
        for m in [0, 1, 7, 15, 16, 17, 24, 48, 2 ** 31 + 1, GREATEST]:
            self.assertEqual(refused(2, "1100", f"between {m}"), -22, m)
        self.assertEqual(ask("begin 2", "between 0", "between 1"), [[2], [0, 0], [-22]])

    def test_24_things(self):
        first, last = "1" * 12 + "0" * 12, "0" * 12 + "1" * 12
        self.assertEqual(ask_way(2, first, "between 16773120", "between 4095", "between 16777216"),
                         [[0, 2704155], [0, 0], [-22]])
        self.assertEqual(ask_way(2, last, "between 4095", "between 16773120"), [[0, -2704155], [0, 0]])
        self.assertEqual(ask_way(2, "1" * 24, "between 16777215", f"between {GREATEST}"), [[0, 0], [-22]])

    def test_written_out(self):
        self.assertEqual(ask_way(2, "0110", "between 3", "between 5", "between 6", "between 9", "between 12"),
                         [[0, -2], [0, -1], [0, 0], [0, 1], [0, 3]])


class Meet(unittest.TestCase):
    def test_every_two_choices_of_up_to_six_things(self):
        for count in range(7):
            for steps in all_steps(count):
                mine = mask_of(steps)
                found = ask_things(steps, [f"meet {m}" for m in range(2 ** count)])
                self.assertEqual(found, [[ones(mine & m), ones(mine ^ m)] for m in range(2 ** count)])

    def test_a_thing_that_isnt_there(self):
        for count in [0, 1, 3, 23, 24]:
            for m in [2 ** count, 2 ** count + 1, 2 ** 31, GREATEST]:
                self.assertEqual(refused(2, "1" * count, f"meet {m}"), -22)
            self.assertEqual(ask_way(2, "1" * count, f"meet {2 ** count - 1}"), [[count, 0]])

    def test_choices_that_share_nothing(self):
        self.assertEqual(ask_way(2, "1100", "meet 12", "meet 0", "meet 15"), [[0, 4], [0, 2], [2, 2]])
        self.assertEqual(ask_way(2, "0" * 24, "meet 16777215", "meet 0"), [[0, 24], [0, 0]])


class Sharing(unittest.TestCase):
    def test_every_choice_of_up_to_seven_things(self):
        for count in range(8):
            for steps in all_steps(count):
                mine = mask_of(steps)
                shared = [ones(mine & m) for m in ways_in_order(count, sum(steps))]
                found = ask_things(steps, [f"sharing {j}" for j in range(sum(steps) + 1)])
                self.assertEqual(found, [[shared.count(j)] for j in range(sum(steps) + 1)])

    def test_more_than_are_chosen(self):
        for steps in ["", "0", "1", "0110", "1" * 24, "0" * 24]:
            chosen = steps.count("1")
            for j in [chosen + 1, 25, GREATEST]:
                self.assertEqual(refused(2, steps, f"sharing {j}"), -22)

    def test_24_things(self):
        self.assertEqual(ask_way(2, "10" * 12, *[f"sharing {j}" for j in range(13)]),
                         [[math.comb(12, j) ** 2] for j in range(13)])
        self.assertEqual(ask_way(2, "1" * 24, "sharing 24", "sharing 23", "sharing 0"), [[1], [0], [0]])
        self.assertEqual(ask_way(2, "0" * 24, "sharing 0"), [[1]])

    def test_written_out(self):
        self.assertEqual(ask_way(2, "01100", "sharing 0", "sharing 1", "sharing 2"), [[3], [6], [1]])


class Having(unittest.TestCase):
    def test_every_thing_of_up_to_seven(self):
        for count in range(8):
            for steps in all_steps(count):
                choices = ways_in_order(count, sum(steps))
                having = [sum(m >> i & 1 for m in choices) for i in range(count)]
                found = ask_way(2, steps, *[f"having {i}" for i in range(count)])
                self.assertEqual(found, [[found_there, len(choices) - found_there] for found_there in having])

    def test_theres_no_such_thing(self):
        for count in [0, 1, 3, 24]:
            for i in [count, count + 1, 25, GREATEST]:
                self.assertEqual(refused(2, "1" * count, f"having {i}"), -2)

    def test_24_things(self):
        self.assertEqual(ask_way(2, "10" * 12, "having 0", "having 23"), [[1352078, 1352078]] * 2)
        self.assertEqual(ask_way(2, "1" * 24, "having 23"), [[1, 0]])
        self.assertEqual(ask_way(2, "0" * 24, "having 0"), [[0, 1]])

    def test_written_out(self):
        self.assertEqual(ask_way(2, "01100", "having 0", "having 4"), [[4, 6], [4, 6]])


class AllRightsThingsum(unittest.TestCase):
    def test_every_choice_of_up_to_seven_things(self):
        for count in range(8):
            for steps in all_steps(count):
                mask = mask_of(steps)
                self.assertEqual(ask_way(2, steps, "all", "rights", "thingsum"),
                                 [[2 ** count], [ones(mask)] + things(mask), [sum(things(mask))]])

    def test_all_of_up_to_24_things(self):
        for count in range(25):
            self.assertEqual(ask_way(2, MIXED[:count], "all"), [[2 ** count]])

    def test_corners(self):
        self.assertEqual(ask("begin 2", "all", "rights", "thingsum"), [[2], [1], [0], [0]])
        self.assertEqual(ask_way(2, "1" * 24, "all", "rights", "thingsum"),
                         [[16777216], [24] + list(range(24)), [276]])
        self.assertEqual(ask_way(2, "0" * 24, "all", "rights", "thingsum"), [[16777216], [0], [0]])
        self.assertEqual(ask_way(2, "0" * 23 + "1", "rights", "thingsum"), [[1, 23], [23]])


class Gray(unittest.TestCase):
    def test_every_choice_of_up_to_ten_things(self):
        for count in range(11):
            for k in range(count + 1):
                choices = by_exchanges(count, k)
                self.assertEqual(len(choices), math.comb(count, k))
                found = ask_things("0" * count, [f"gray {k} {r}" for r in range(len(choices))])
                self.assertEqual(found, [[mask] + things(mask) for mask in choices])

    def test_each_once_and_by_one_exchange_from_the_one_before(self):
        for count, k in [(10, 5), (10, 1), (9, 4), (7, 6)]:
            found = ask_things("1" * count, [f"gray {k} {r}" for r in range(math.comb(count, k))])
            choices = [answer[0] for answer in found]
            self.assertEqual(sorted(choices), ways_in_order(count, k))
            # The last one stands ahead of the first one here.
            for before, mask in zip(choices[-1:] + choices, choices):
                self.assertEqual(ones(before ^ mask), 2)

    def test_none_with_that_number(self):
        for count in range(11):
            for k in range(count + 1):
                self.assertEqual(refused(2, "1" * count, f"gray {k} {math.comb(count, k)}"), -33)
            for k, r in [(count + 1, 0), (25, 0), (GREATEST, 0), (0, GREATEST), (GREATEST, GREATEST)]:
                self.assertEqual(refused(2, "1" * count, f"gray {k} {r}"), -33)

    def test_more_than_ten_things_come_first(self):
        for count in [11, 12, 24]:
            for k, r in [(0, 0), (5, 3), (count, 0), (5, GREATEST), (GREATEST, 0)]:
                self.assertEqual(refused(2, "1" * count, f"gray {k} {r}"), -22)

    def test_written_out(self):
        # Of four things two: 0 1, 1 2, 0 2; then with thing 3: 2, 1, 0.
        self.assertEqual(ask_way(2, "1100", *[f"gray 2 {r}" for r in range(7)]),
                         [[3, 0, 1], [6, 1, 2], [5, 0, 2], [12, 2, 3], [10, 1, 3], [9, 0, 3], [-33]])
        self.assertEqual(ask("begin 2", "gray 0 0", "gray 0 1", "gray 1 0"), [[2], [0], [-33], [-33]])

    def test_it_isnt_chosen(self):
        self.assertEqual(ask_way(5, "101", "gray 1 2", "told"), [[4, 2], [5, 3, 5]])


class WaysOf(unittest.TestCase):
    def test_every_choice_of_up_to_six_things(self):
        for count in range(7):
            for steps in all_steps(count):
                sums = [sum(things(m)) for m in ways_in_order(count, sum(steps))]
                found = ask_things(steps, [f"waysof {s}" for s in range(20)])
                self.assertEqual(found, [[sums.count(s)] for s in range(20)])

    def test_ten_things(self):
        for k in range(11):
            sums = [sum(things(m)) for m in ways_in_order(10, k)]
            found = ask_things("1" * k + "0" * (10 - k), [f"waysof {s}" for s in range(50)])
            self.assertEqual(found, [[sums.count(s)] for s in range(50)])

    def test_any_sum(self):
        for s in [1000000, 1000001, GREATEST]:
            self.assertEqual(ask_way(2, "1" * 10, f"waysof {s}", "waysof 45"), [[0], [1]])

    def test_more_than_ten_things(self):
        for count in [11, 12, 24]:
            for s in [0, 5, GREATEST]:
                self.assertEqual(refused(2, "1" * count, f"waysof {s}"), -22)
                self.assertEqual(refused(2, "0" * count, f"waysof {s}"), -22)

    def test_written_out(self):
        # 0 3 and 1 2.
        self.assertEqual(ask_way(2, "1100", "waysof 3", "waysof 0", "waysof 1", "waysof 6"), [[2], [0], [1], [0]])
        self.assertEqual(ask("begin 2", "waysof 0", "waysof 1"), [[2], [1], [0]])
        self.assertEqual(ask_way(2, "0000", "waysof 0", "waysof 1"), [[1], [0]])


class OfTheWay(unittest.TestCase):
    def test_the_prime_says_nothing(self):
        calls = ["choice 2 3", "between 3", "meet 9", "sharing 1", "having 2", "all", "rights", "gray 2 3",
                 "thingsum", "waysof 3"]
        self.assertEqual(ask_way(2, "0110", *calls), ask_way(97, "0110", *calls))

    def test_the_way_as_it_stands_now(self):
        self.assertEqual(ask_way(2, "110", "rights", "mirror", "rights", "down 1", "rights", "all", "up", "go 2 1",
                                 "rights", "next", "rights", "thingsum", "begin 3", "rights", "all"),
                         [[2, 0, 1], [1, 2], [1, 2], [4, 2], [2, 2, 3], [16], [3, 1], [2, 0, 2],
                          [2, 0, 2], [2, 1, 2], [2, 1, 2], [3], [3], [0], [1]])


if __name__ == "__main__":
    unittest.main()
