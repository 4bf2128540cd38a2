"""What holds of every call and of whole lists of calls."""

import contextlib
import io
import unittest

from choicetriangle.way import answers
from tests.helper import COUNTS, GREATEST, NUMBERS, apart, ask, ask_way, encoded

# Calls that are refused, whatever way of three steps it is, and by which number.
REFUSED = [
    ("begin 1", -22), ("prime 1", -22), ("down 2", -22), ("turn 2", -33), ("go 4 0", -33),
    ("avoid 25 0", -22), ("turnsto 8", -22), ("together 8", -22), ("behind 4", -22),
    ("digits 1000001", -22), ("cross 1000001", -22), ("carries 1000001 0", -22), ("carriedat 0 1000001", -22),
    ("three 0 0 1000001", -22), ("divides 0", -22), ("onemore 1000000", -22), ("pairswith 61 0", -22),
    ("mostcarries 61", -22), ("like 1001", -22), ("like 0", -33), ("fromdigits 0 0 0 97", -22),
    ("without 1000001 0", -22), ("without 0 1", -33), ("product 21", -22), ("productoften 1000001", -22),
    ("rest 1000001", -22), ("leastof 601", -22), ("noughts 1 0", -22), ("span 0 0", -22), ("gaps 61", -22),
    ("notsquare 61", -22), ("twice 0 61", -22), ("parts 101", -22), ("jumps 0", -22), ("choose 0 1", -22),
    ("times 0 1", -22), ("rowoften 61", -22), ("spared 1000001", -22),
]

# A call of each kind that is let through behind right, left, right.
LET_THROUGH = [
    "here", "number", "often", "left", "divided", "avoid 3 2", "clean", "turnsto 6", "together 6", "behind 2",
    "best", "told", "digits 9", "cross 9", "carries 5 6", "carriedat 5 6", "three 1 2 3", "divides 8",
    "onemore 7", "pairswith 5 1", "mostcarries 9", "like 5", "fromdigits 1 0 1 0", "without 9 4", "product 5",
    "productoften 9", "rest 9", "leastof 3", "noughts 12 9", "span 3 9", "gaps 9", "notsquare 9", "twice 9 3",
    "parts 12", "jumps 8", "choose 9 4", "times 9 4", "rowoften 9", "spared 9",
]


class FixedList(list):
    """A list that tells at once when something tries to change it."""

    def refuse(self, *given, **named):
        raise AssertionError("what is handed in was changed")

    append = extend = insert = pop = remove = clear = sort = reverse = refuse
    __setitem__ = __delitem__ = __iadd__ = __imul__ = refuse


class Begun(unittest.TestCase):
    def test_each_call_ahead_of_a_begin(self):
        for name in NUMBERS:
            if name == "begin":
                continue
            for number in [0, 1, 2, GREATEST]:
                call = " ".join([name] + [str(number)] * COUNTS[name])
                self.assertEqual(ask(call, "begin 4", call, "begin 3", "told"),
                                 [[-11], [-22], [-11], [3], [3, 0, 0]], call)


class Changing(unittest.TestCase):
    def test_no_refusal_changes_anything(self):
        names = {call.split()[0] for call, number in REFUSED}
        self.assertEqual(len(names), 36)
        for call, number in REFUSED:
            self.assertEqual(ask_way(2, "101", call, "told", "number", "digits 5"),
                             [[number], [2, 3, 5], [1, 3], [3, 1, 0, 1]], call)

    def test_no_view_and_no_stage_changes_anything(self):
        for call in LET_THROUGH:
            first, told, again, told_again = ask_way(2, "101", call, "told", call, "told")
            self.assertGreaterEqual(first[0], 0, call)
            self.assertEqual([first, told, told_again], [again, [2, 3, 5], [2, 3, 5]], call)

    def test_every_call_is_tried_here(self):
        tried = {call.split()[0] for call in LET_THROUGH}
        moves = {"begin", "prime", "down", "up", "turn", "mirror", "go", "next", "back"}
        self.assertEqual(tried | moves, set(NUMBERS))


class Form(unittest.TestCase):
    def test_the_list_given_back(self):
        self.assertEqual(answers([20, 0, 2, 2, 1, 2, 0, 9, 3, 2, 5]),
                         [1, -11, 1, 2, 2, 1, 1, 2, 2, 1, 3, 2, 1, 2, 2, 1, 1, 1, -22])
        self.assertEqual(answers([20]), [1, -11])
        self.assertEqual(answers([0, 2, 21, 0, 13, 46, 0]), [1, 2, 1, 0, 1, 0, 2, 1, 0])

    def test_whole_numbers_and_never_true_or_false(self):
        calls = encoded("begin 2", "down 1", *LET_THROUGH)
        answered = answers(calls)
        self.assertIs(type(answered), list)
        self.assertEqual({type(number) for number in answered}, {int})

    def test_the_interfaces_numbers(self):
        self.assertEqual(sorted(NUMBERS.values()), list(range(48)))

    def test_each_kind_of_call_behind_another(self):
        # If one call took too many numbers, or too few, those behind it would be read wrong.
        answered = ask_way(2, "101", *LET_THROUGH)
        self.assertEqual(answered, [ask_way(2, "101", call)[0] for call in LET_THROUGH])


class Lists(unittest.TestCase):
    def test_120_calls(self):
        found = ask("begin 2", *["down 1", "down 0", "up", "up"] * 29, "told", "here", "number")
        self.assertEqual(len(found), 120)
        self.assertEqual(found[1:117], [[1, 1], [2, 1], [1, 1], [0, 0]] * 29)
        self.assertEqual(found[117:], [[2, 0, 0], [0, 0, 1], [0, 1]])

    def test_120_of_the_longest_calls(self):
        calls = ["begin 97"] + ["fromdigits 96 96 96 96"] * 119
        self.assertEqual(ask(*calls), [[97]] + [[88529280]] * 119)

    def test_120_of_the_slowest_calls(self):
        for call, expected in [("like 0", [-33]), ("leastof 600", [-33]), ("rest 1000000", None),
                               ("avoid 24 12", None), ("pairswith 60 0", None)]:
            found = ask("begin 97", *[call] * 119)[1:]
            self.assertEqual(found, [expected or found[0]] * 119)

    def test_the_second_list_is_answered_as_if_it_were_the_first(self):
        first = encoded("begin 97", *["down 1"] * 24, "told")
        second = encoded("told", "begin 2", "told", "down 0", "down 1", "number")
        alone = answers(list(second))
        answers(first)
        self.assertEqual(answers(second), alone)
        self.assertEqual(apart(alone, 6), [[-11], [2], [2, 0, 0], [1, 0], [2, 1], [1, 2]])
        self.assertEqual(answers(first), answers(first))

    def test_what_is_given_back_is_ones_own(self):
        calls = encoded("begin 2", "digits 6", "told")
        found = answers(calls)
        expected = list(found)
        found.clear()
        self.assertEqual(answers(calls), expected)

    def test_the_list_handed_in_stays_as_it_was(self):
        calls = encoded("begin 2", "down 1", "down 0", "down 1", "turn 0", "mirror", "go 2 0", "next", "back", "up",
                        *LET_THROUGH)
        before = list(calls)
        self.assertEqual(answers(FixedList(calls)), answers(calls))
        self.assertEqual(calls, before)

    def test_nothing_is_printed(self):
        out = io.StringIO()
        with contextlib.redirect_stdout(out), contextlib.redirect_stderr(out):
            answers(encoded("told", "begin 2", *LET_THROUGH))
        self.assertEqual(out.getvalue(), "")


if __name__ == "__main__":
    unittest.main()
