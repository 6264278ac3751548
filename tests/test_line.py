"""Whole lines: how they are read and answered, what goes before a begin, and what stays as it is."""

import unittest

from tests.lines import (
    BETTER, ENVIES, HONEST, HUGE, NOTHING, QUESTIONS, RESTS, SIZES, STATE, WORTH, act, apart, begin, last, pays, run,
    seen, send, wants, weight,
)
from twowants.signs import answers

BAD_BEGINS = [begin(*sizes) for bad in (0, 4, HUGE) for sizes in ((bad, 1, 1), (1, bad, 1), (1, 1, bad))]
BAD_BEGINS += [begin(0, 0, 0), begin(4, 2, 0), begin(HUGE, HUGE, HUGE)]

# Right, wrong in one way, wrong in several: before a begin all are refused alike.
OTHERS = [
    weight(0, 1), weight(0, 0), weight(9, 10), weight(HUGE, HUGE),
    pays([]), pays([1]), pays([10]), pays([HUGE] * 255),
    wants([]), wants([1]), wants([10]), wants([HUGE] * 255),
    send([]), send([0]), send([HUGE] * 255),
    act([]), act([0]), act([HUGE] * 255),
] + QUESTIONS

CHANGED = [
    begin(2, 3, 2), weight(0, 4), weight(1, 7), pays([1, 2, 3, 4]), wants([9, 8, 7, 6]),
    send([2, 1]), act([1, 0, 1]),
]


def refuse(self, *given):
    raise AssertionError("what is handed in is changed")


class Watched(list):
    """A list that doesn't let itself be changed, not for a while either."""

    __setitem__ = __delitem__ = __iadd__ = __imul__ = refuse
    append = clear = extend = insert = pop = remove = reverse = sort = refuse


class Line(unittest.TestCase):
    def test_no_calls(self):
        self.assertEqual(answers([]), [])

    def test_how_answers_stand(self):
        self.assertEqual(
            answers([0, 2, 2, 2, 6, 1, 9, 9, 7, 8, 9, 2, 0]),
            [1, 0, 3, 1, 1, 2, 1, -2, 1, 1, 2, 1, 1, 2, 6, 2, 1, -22],
        )

    def test_before_a_begin(self):
        for call in OTHERS:
            self.assertEqual(run([call]), [[-11]], call)
            self.assertEqual(run([call, call]), [[-11], [-11]], call)

    def test_before_a_begin_in_one_line(self):
        self.assertEqual(run(OTHERS), [[-11]] * len(OTHERS))

    def test_refused_before_a_begin_leaves_nothing_behind(self):
        line = [weight(0, 5), pays([3] * 4), wants([2] * 4), send([1, 1]), act([1, 1]), begin(2, 2, 2)]
        self.assertEqual(seen(line, 2, 2, 2), seen([begin(2, 2, 2)], 2, 2, 2))

    def test_a_refused_begin_does_not_begin(self):
        for call in BAD_BEGINS:
            self.assertEqual(run([call, WORTH, weight(9, 10), RESTS]), [[-22], [-11], [-11], [-11]], call)
            self.assertEqual(run([call] + QUESTIONS), [[-22]] + [[-11]] * 13, call)
            self.assertEqual(last([call, begin(1, 1, 1)]), [0], call)

    def test_a_refused_begin_leaves_what_has_begun(self):
        before = seen(CHANGED, 2, 3, 2)
        for call in BAD_BEGINS:
            self.assertEqual(last(CHANGED + [call]), [-22], call)
            self.assertEqual(seen(CHANGED + [call], 2, 3, 2), before, call)
            self.assertEqual(run(CHANGED + [call] + QUESTIONS)[-13:], run(CHANGED + QUESTIONS)[-13:], call)

    def test_lists_are_read_to_their_ends(self):
        # Numbers within a list that look like calls are none.
        line = [begin(1, 1, 1), pays([0, 1, 1, 1]), wants([6] * 255), send([]), act([0]), WORTH]
        self.assertEqual(run(line), [[0], [-22], [-22], [-22], [0], [1, 1, 1]])

    def test_the_longest_line(self):
        line = [begin(3, 3, 3)] + [pays([HUGE] * 255)] * 39
        self.assertEqual(run(line), [[0]] + [[-22]] * 39)

    def test_every_call_is_answered(self):
        for sizes in SIZES:
            told = run([begin(*sizes)] + OTHERS[:18] + QUESTIONS)
            self.assertTrue(all(each and each[0] in (-2, -22) or min(each) >= 0 for each in told[:19]), sizes)
            for call, each in zip(QUESTIONS, told[19:]):
                refused = call in (HONEST, ENVIES) and sizes[1] < sizes[0]
                self.assertTrue(each == [-33] if refused else min(each) >= 0, (sizes, call, each))

    def test_what_is_handed_in_stays(self):
        line = CHANGED + [weight(0, 9), weight(1, 3), BETTER, NOTHING] + QUESTIONS
        handed = Watched([number for call in line for number in call])
        before = list(handed)
        told = answers(handed)
        self.assertEqual(handed, before)
        self.assertEqual(apart(told, len(line)), run(line))

    def test_twice_the_same(self):
        handed = [number for call in CHANGED + QUESTIONS for number in call]
        first = answers(handed)
        kept = list(first)
        self.assertEqual(answers(handed), first)
        # What is given back is the caller's own: changing it touches nothing.
        first.append(5)
        self.assertEqual(answers(handed), kept)

    def test_nothing_is_kept_from_line_to_line(self):
        run(CHANGED)
        self.assertEqual(run([WORTH]), [[-11]])
        self.assertEqual(run([STATE]), [[-11]])
        self.assertEqual(run([begin(2, 2, 2), WORTH]), [[0], [1, 1, 2]])
