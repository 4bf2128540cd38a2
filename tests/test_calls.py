"""What holds of every call and of whole lists of calls."""

import contextlib
import io
import random
import unittest

from choicetriangle.way import answers
from tests.helper import COUNTS, GREATEST, NUMBERS, PRIMES, apart, ask, ask_way, encoded

MOVES = ["begin", "prime", "down", "up", "turn", "mirror", "go", "next", "back"]

# Calls that are refused behind right, left, right, of the prime 2, and by which number.
REFUSED = [
    ("begin 1", -22), ("prime 1", -22), ("down 2", -22), ("turn 2", -33), ("go 4 0", -33),
    ("avoid 25 0", -22), ("turnsto 8", -22), ("together 8", -22), ("behind 4", -22),
    ("digits 1000001", -22), ("cross 1000001", -22), ("carries 1000001 0", -22), ("carriedat 0 1000001", -22),
    ("three 0 0 1000001", -22), ("divides 0", -22), ("onemore 1000000", -22), ("pairswith 61 0", -22),
    ("mostcarries 61", -22), ("like 1001", -22), ("like 0", -33), ("fromdigits 0 0 0 97", -22),
    ("without 1000001 0", -22), ("without 0 1", -33), ("product 21", -22), ("productoften 1000001", -22),
    ("rest 1000001", -22), ("leastof 601", -22), ("noughts 1 0", -22), ("span 0 0", -22), ("gaps 61", -22),
    ("notsquare 61", -22), ("twice 0 61", -22), ("parts 101", -22), ("jumps 0", -22), ("choose 0 1", -22),
    ("times 0 1", -22), ("rowoften 61", -22), ("spared 1000001", -22),
    ("whole 201", -22), ("none 201", -22), ("most 201", -22), ("first 201", -22), ("first 3", -33),
    ("rows 101", -22), ("bare 101", -22), ("middle 500001", -22), ("below 101", -22), ("with 201 0", -22),
    ("leftat 0 1", -22), ("rowleft 61", -22), ("counts 101", -22), ("nextplace 501 0", -22), ("nextplace 5 5", -33),
    ("odd 0 1", -22), ("odds 1000001", -22), ("joined 0 1 0 0", -22), ("sumleft 201", -22), ("turnsleft 201", -22),
    ("same 61 0", -22), ("by 0 4", -22), ("which 0 2", -22), ("under 0 1", -22), ("at 4", -22), ("shared 4 0", -22),
    ("star 3", -22), ("starproduct 0", -22), ("hermite 0", -22), ("dividing 4", -22), ("great 4", -22),
    ("great 0", -33), ("places 1", -22), ("sum 4", -22), ("stick 4", -22), ("choice 4 0", -33), ("between 7", -22),
    ("meet 8", -22), ("sharing 3", -22), ("having 3", -2), ("gray 4 0", -33),
]

# Calls that never are, or not behind three steps: these are refused elsewhere, if they may be.
NOT_REFUSED_HERE = [
    "up", "mirror", "next", "back", "here", "number", "often", "left", "divided", "clean", "best", "told",
    "greatest", "least", "upto", "even", "fewest", "squares", "all", "rights", "thingsum", "waysof",
]

# A call of each kind that is let through behind right, left, right.
LET_THROUGH = [
    "here", "number", "often", "left", "divided", "avoid 3 2", "clean", "turnsto 6", "together 6", "behind 2",
    "best", "told", "digits 9", "cross 9", "carries 5 6", "carriedat 5 6", "three 1 2 3", "divides 8",
    "onemore 7", "pairswith 5 1", "mostcarries 9", "like 5", "fromdigits 1 0 1 0", "without 9 4", "product 5",
    "productoften 9", "rest 9", "leastof 3", "noughts 12 9", "span 3 9", "gaps 9", "notsquare 9", "twice 9 3",
    "parts 12", "jumps 8", "choose 9 4", "times 9 4", "rowoften 9", "spared 9", "whole 8", "none 7", "most 9",
    "first 9", "rows 9", "bare 9", "middle 9", "below 9", "with 9 1", "leftat 9 8", "rowleft 9", "counts 9",
    "nextplace 9 1", "odd 9 8", "odds 9", "joined 4 2 1 0", "sumleft 9", "turnsleft 9", "same 9 8", "by 9 3",
    "which 9 1", "under 9 4", "at 1", "greatest", "least", "upto", "shared 1 2", "star 1", "starproduct 2",
    "hermite 2", "dividing 1", "great 1", "places 6", "even", "fewest", "sum 2", "squares", "stick 1", "choice 1 2",
    "between 6", "meet 6", "sharing 1", "having 1", "all", "rights", "gray 1 2", "thingsum", "waysof 3",
]

# Moves that are let through, one behind another, behind a begin; they end at right, left, right of the prime 2.
MOVED = ["prime 3", "down 1", "down 0", "down 0", "turn 0", "mirror", "next", "back", "go 2 1", "up", "down 1",
         "prime 2"]

# Numbers to ask with: the bounds of all calls and their neighbours, and more.
CORNERS = [0, 1, 2, 3, 5, 7, 9, 10, 11, 20, 21, 23, 24, 25, 40, 41, 59, 60, 61, 96, 97, 98, 100, 101, 200, 201, 500,
           501, 600, 601, 700, 1000, 1001, 4095, 500000, 500001, 999999, 1000000, 1000001, 16777215, 16777216, GREATEST]


def random_call(chooser, name):
    """The call, with numbers that are often let through."""
    pool = chooser.choice([range(3), range(3), range(30), CORNERS])
    given = [chooser.choice(pool) for _ in range(COUNTS[name])]
    if name in ("begin", "prime"):
        given = [chooser.choice(PRIMES + [0, 1, 4, 100])]
    if name == "down":
        given = [chooser.choice([0, 0, 1, 1, 2])]
    return " ".join([name] + [str(number) for number in given])


def each_alone(calls):
    """The answers, each call asked in a list of its own behind the moves ahead of it."""
    found = []
    moved = []
    for call in calls:
        answer = ask(*moved, call)[-1]
        found.append(answer)
        if call.split()[0] in MOVES and answer[0] >= 0:
            moved.append(call)
    return found


class FixedList(list):
    """A list that tells at once when something tries to change it."""

    def refuse(self, *given, **named):
        raise AssertionError("what is handed in was changed")

    append = extend = insert = pop = remove = clear = sort = reverse = refuse
    __setitem__ = __delitem__ = __iadd__ = __imul__ = refuse


class Begun(unittest.TestCase):
    def test_each_call_ahead_of_a_begin(self):
        for name in NUMBERS:
            if name == "begin":
                continue
            for number in [0, 1, 2, GREATEST]:
                call = " ".join([name] + [str(number)] * COUNTS[name])
                self.assertEqual(ask(call, "begin 4", call, "begin 3", "told"),
                                 [[-11], [-22], [-11], [3], [3, 0, 0]], call)


class Changing(unittest.TestCase):
    def test_no_refusal_changes_anything(self):
        names = {call.split()[0] for call, number in REFUSED}
        self.assertEqual(sorted(list(names) + NOT_REFUSED_HERE), sorted(NUMBERS))
        for call, number in REFUSED:
            self.assertEqual(ask_way(2, "101", call, "told", "number", "digits 5"),
                             [[number], [2, 3, 5], [1, 3], [3, 1, 0, 1]], call)

    def test_no_view_and_no_stage_changes_anything(self):
        for call in LET_THROUGH:
            first, told, again, told_again = ask_way(2, "101", call, "told", call, "told")
            self.assertGreaterEqual(first[0], 0, call)
            self.assertEqual([first, told, told_again], [again, [2, 3, 5], [2, 3, 5]], call)

    def test_every_call_is_tried_here(self):
        tried = [call.split()[0] for call in LET_THROUGH]
        self.assertEqual(sorted(tried + MOVES), sorted(NUMBERS))


class Form(unittest.TestCase):
    def test_the_list_given_back(self):
        self.assertEqual(answers([20, 0, 2, 2, 1, 2, 0, 9, 3, 2, 5]),
                         [1, -11, 1, 2, 2, 1, 1, 2, 2, 1, 3, 2, 1, 2, 2, 1, 1, 1, -22])
        self.assertEqual(answers([20]), [1, -11])
        self.assertEqual(answers([0, 2, 21, 0, 13, 46, 0]), [1, 2, 1, 0, 1, 0, 2, 1, 0])

    def test_whole_numbers_and_never_true_or_false(self):
        calls = encoded("begin 2", "down 1", "down 0", "down 1", *LET_THROUGH)
        answered = answers(calls)
        self.assertIs(type(answered), list)
        self.assertEqual({type(number) for number in answered}, {int})

    def test_the_interfaces_numbers(self):
        self.assertEqual(sorted(NUMBERS.values()), list(range(96)))

    def test_each_kind_of_call_behind_another(self):
        # If one call took too many numbers, or too few, those behind it would be read wrong.
        answered = ask_way(2, "101", *LET_THROUGH)
        self.assertEqual(answered, [ask_way(2, "101", call)[0] for call in LET_THROUGH])


class Lists(unittest.TestCase):
    def test_120_calls(self):
        found = ask("begin 2", *["down 1", "down 0", "up", "up"] * 29, "told", "here", "number")
        self.assertEqual(len(found), 120)
        self.assertEqual(found[1:117], [[1, 1], [2, 1], [1, 1], [0, 0]] * 29)
        self.assertEqual(found[117:], [[2, 0, 0], [0, 0, 1], [0, 1]])

    def test_120_calls_out_of_all_96(self):
        calls = ["begin 2"] + MOVED + LET_THROUGH
        calls += [call for call, number in REFUSED][:120 - len(calls)]
        self.assertEqual(len(calls), 120)
        self.assertEqual({call.split()[0] for call in calls}, set(NUMBERS))
        found = ask(*calls)
        self.assertEqual(found, each_alone(calls))
        let_through = len(MOVED) + 1 + len(LET_THROUGH)
        self.assertEqual([call for call, answer in zip(calls, found[:let_through]) if answer[0] < 0], [])
        self.assertEqual(found[let_through:], [[number] for call, number in REFUSED][:120 - let_through])

    def test_any_120_calls(self):
        chooser = random.Random(29)
        asked = set()
        for _ in range(20):
            names = list(NUMBERS) + ["down"] * 21
            chooser.shuffle(names)
            calls = ["told", "begin 4", "begin 97"] + [random_call(chooser, name) for name in names]
            found = ask(*calls)
            self.assertEqual(found, each_alone(calls))
            asked.update(call.split()[0] for call, answer in zip(calls, found) if answer[0] >= 0)
        self.assertEqual(asked, set(NUMBERS))

    def test_120_of_the_longest_calls(self):
        calls = ["begin 97"] + ["fromdigits 96 96 96 96"] * 119
        self.assertEqual(ask(*calls), [[97]] + [[88529280]] * 119)

    def test_120_of_the_slowest_calls(self):
        for call, expected in [("like 0", [-33]), ("leastof 600", [-33]), ("rest 1000000", None),
                               ("avoid 24 12", None), ("pairswith 60 0", None)]:
            found = ask("begin 97", *[call] * 119)[1:]
            self.assertEqual(found, [expected or found[0]] * 119)
        for steps, call in [("", "most 200"), ("", "rows 100"), ("", "counts 100"), ("", "sumleft 200"),
                            ("", "places 1000000"), ("1" * 24, "fewest"), ("1" * 24, "least"), ("10" * 5, "waysof 20")]:
            found = ask_way(2, steps, *[call] * 95)
            self.assertEqual(found, [found[0]] * 95)

    def test_the_second_list_is_answered_as_if_it_were_the_first(self):
        first = encoded("begin 97", *["down 1"] * 24, "told")
        second = encoded("told", "begin 2", "told", "down 0", "down 1", "number")
        alone = answers(list(second))
        answers(first)
        self.assertEqual(answers(second), alone)
        self.assertEqual(apart(alone, 6), [[-11], [2], [2, 0, 0], [1, 0], [2, 1], [1, 2]])
        self.assertEqual(answers(first), answers(first))

    def test_the_second_list_whatever_the_first_one_asked(self):
        second = encoded("told", "begin 2", "down 1", "down 0", "down 1", *LET_THROUGH)
        alone = answers(list(second))
        answers(encoded("begin 97", "down 1", "down 1", *LET_THROUGH, "prime 5", "mirror"))
        self.assertEqual(answers(second), alone)
        self.assertEqual(answers(second), alone)

    def test_what_is_given_back_is_ones_own(self):
        calls = encoded("begin 2", "digits 6", "told")
        found = answers(calls)
        expected = list(found)
        found.clear()
        self.assertEqual(answers(calls), expected)

    def test_the_list_handed_in_stays_as_it_was(self):
        calls = encoded("begin 2", "down 1", "down 0", "down 1", "turn 0", "mirror", "go 2 0", "next", "back", "up",
                        *LET_THROUGH)
        before = list(calls)
        self.assertEqual(answers(FixedList(calls)), answers(calls))
        self.assertEqual(calls, before)

    def test_nothing_is_printed(self):
        out = io.StringIO()
        with contextlib.redirect_stdout(out), contextlib.redirect_stderr(out):
            answers(encoded("told", "begin 2", *LET_THROUGH))
        self.assertEqual(out.getvalue(), "")


if __name__ == "__main__":
    unittest.main()
