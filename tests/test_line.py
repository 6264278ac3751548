import unittest

from tests.lines import (
    BETTER, HUGE, REST, RESTS, WORTH, act, begin, last, pays, run, seen, send, wants, weight,
)
from twowants.signs import answers

BAD_BEGINS = [begin(*sizes) for bad in (0, 4, HUGE) for sizes in ((bad, 1, 1), (1, bad, 1), (1, 1, bad))]
BAD_BEGINS += [begin(0, 0, 0), begin(4, 2, 0), begin(HUGE, HUGE, HUGE)]

# Right, wrong in one way, wrong in several: before a begin all are refused alike.
OTHERS = [
    weight(0, 1), weight(0, 0), weight(9, 10), weight(HUGE, HUGE),
    pays([]), pays([1]), pays([10]), pays([HUGE] * 255),
    wants([]), wants([1]), wants([10]), wants([HUGE] * 255),
    send([]), send([0]), send([HUGE] * 255),
    act([]), act([0]), act([HUGE] * 255),
    WORTH, REST, BETTER, RESTS,
] + [[number] for number in range(10, 19)]

CHANGED = [
    begin(2, 3, 2), weight(0, 4), weight(1, 7), pays([1, 2, 3, 4]), wants([9, 8, 7, 6]),
    send([2, 1]), act([1, 0, 1]),
]


class Line(unittest.TestCase):
    def test_no_calls(self):
        self.assertEqual(answers([]), [])

    def test_how_answers_stand(self):
        self.assertEqual(
            answers([0, 2, 2, 2, 6, 1, 9, 9, 7, 8, 9, 2, 0]),
            [1, 0, 3, 1, 1, 2, 1, -2, 1, 1, 2, 1, 1, 2, 6, 2, 1, -22],
        )

    def test_before_a_begin(self):
        for call in OTHERS:
            self.assertEqual(run([call]), [[-11]], call)
            self.assertEqual(run([call, call]), [[-11], [-11]], call)

    def test_before_a_begin_in_one_line(self):
        self.assertEqual(run(OTHERS), [[-11]] * len(OTHERS))

    def test_refused_before_a_begin_leaves_nothing_behind(self):
        line = [weight(0, 5), pays([3] * 4), wants([2] * 4), send([1, 1]), act([1, 1]), begin(2, 2, 2)]
        self.assertEqual(seen(line, 2, 2, 2), seen([begin(2, 2, 2)], 2, 2, 2))

    def test_a_refused_begin_does_not_begin(self):
        for call in BAD_BEGINS:
            self.assertEqual(run([call, WORTH, weight(9, 10), RESTS]), [[-22], [-11], [-11], [-11]], call)
            self.assertEqual(last([call, begin(1, 1, 1)]), [0], call)

    def test_a_refused_begin_leaves_what_has_begun(self):
        before = seen(CHANGED, 2, 3, 2)
        for call in BAD_BEGINS:
            self.assertEqual(last(CHANGED + [call]), [-22], call)
            self.assertEqual(seen(CHANGED + [call], 2, 3, 2), before, call)

    def test_lists_are_read_to_their_ends(self):
        # Numbers within a list that look like calls are none.
        line = [begin(1, 1, 1), pays([0, 1, 1, 1]), wants([6] * 255), send([]), act([0]), WORTH]
        self.assertEqual(run(line), [[0], [-22], [-22], [-22], [0], [1, 1, 1]])

    def test_the_longest_line(self):
        line = [begin(3, 3, 3)] + [pays([HUGE] * 255)] * 39
        self.assertEqual(run(line), [[0]] + [[-22]] * 39)

    def test_what_is_handed_in_stays(self):
        handed = [number for call in CHANGED + [weight(0, 9), RESTS, BETTER] for number in call]
        before = list(handed)
        answers(handed)
        self.assertEqual(handed, before)

    def test_twice_the_same(self):
        handed = [number for call in CHANGED + [WORTH, REST, BETTER, RESTS] for number in call]
        first = answers(handed)
        kept = list(first)
        self.assertEqual(answers(handed), first)
        # What is given back is the caller's own: changing it touches nothing.
        first.append(5)
        self.assertEqual(answers(handed), kept)

    def test_nothing_is_kept_from_line_to_line(self):
        run(CHANGED)
        self.assertEqual(run([WORTH]), [[-11]])
        self.assertEqual(run([begin(2, 2, 2), WORTH]), [[0], [1, 1, 2]])
