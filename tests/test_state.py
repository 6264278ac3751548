"""state: all that there is, after each call that sets something, each refusal and each question."""

import unittest

from tests.lines import (
    ENVIES, HONEST, HUGE, QUESTIONS, SIZES, STATE, act, begin, last, pays, run, send, wants, weight,
)

# All that can be set isn't as a begin sets it; there are fewer signs than ways.
CHANGED = [
    begin(3, 2, 2), weight(0, 4), weight(1, 7), weight(2, 9), pays([1, 2, 3, 4, 5, 6]),
    wants([9, 8, 7, 6, 5, 4]), send([1, 0, 1]), act([1, 0]),
]
TOLD = [3, 2, 2] + [4, 7, 9] + [1, 2, 3, 4, 5, 6] + [9, 8, 7, 6, 5, 4] + [1, 0, 1] + [1, 0]

REFUSED = [
    (begin(0, 1, 1), -22), (begin(1, 4, 1), -22), (begin(1, 1, HUGE), -22), (begin(HUGE, 0, 4), -22),
    (weight(3, 1), -2), (weight(HUGE, 0), -2), (weight(0, 0), -22), (weight(2, 10), -22), (weight(1, HUGE), -22),
    (pays([]), -22), (pays([1] * 5), -22), (pays([1] * 7), -22), (pays([1, 1, 1, 1, 1, 10]), -22),
    (wants([]), -22), (wants([1] * 5), -22), (wants([1] * 7), -22), (wants([10, 1, 1, 1, 1, 1]), -22),
    (send([]), -22), (send([0, 0]), -22), (send([0, 0, 0, 0]), -22), (send([0, 0, 2]), -22),
    (act([]), -22), (act([0]), -22), (act([0, 0, 0]), -22), (act([2, 0]), -22), (act([0] * 255), -22),
    (HONEST, -33), (ENVIES, -33),
]


def new(n, m, k):
    """What state answers right after a begin."""
    plain = {(1, 1): [1], (1, 2): [1, 0], (1, 3): [1, 0, 0],
             (2, 1): [1, 0], (2, 2): [1, 0, 0, 1], (2, 3): [1, 0, 0, 0, 1, 0],
             (3, 1): [1, 0, 0], (3, 2): [1, 0, 0, 1, 0, 0], (3, 3): [1, 0, 0, 0, 1, 0, 0, 0, 1]}[n, k]
    return [n, m, k] + [1] * n + plain + plain + [0] * n + [0] * m


class State(unittest.TestCase):
    def test_before_a_begin(self):
        self.assertEqual(run([STATE, begin(4, 1, 1), STATE]), [[-11], [-22], [-11]])

    def test_after_a_begin_of_each_size(self):
        for sizes in SIZES:
            self.assertEqual(run([begin(*sizes), STATE]), [[0], new(*sizes)], sizes)

    def test_a_begin_again_sets_all_anew(self):
        self.assertEqual(last(CHANGED + [STATE]), TOLD)
        for sizes in SIZES:
            self.assertEqual(last(CHANGED + [begin(*sizes), STATE]), new(*sizes), sizes)

    def test_after_each_call_that_sets_something(self):
        line = [each for call in CHANGED for each in (call, STATE)]
        begun = [3, 2, 2], [1, 1, 1], [1, 0, 0, 1, 0, 0], [1, 0, 0, 1, 0, 0], [0, 0, 0], [0, 0]
        sizes, weights, paid, wanted, signs, acts = begun
        steps = [
            sizes + weights + paid + wanted + signs + acts,
            sizes + [4, 1, 1] + paid + wanted + signs + acts,
            sizes + [4, 7, 1] + paid + wanted + signs + acts,
            sizes + [4, 7, 9] + paid + wanted + signs + acts,
            sizes + [4, 7, 9] + [1, 2, 3, 4, 5, 6] + wanted + signs + acts,
            sizes + [4, 7, 9] + [1, 2, 3, 4, 5, 6] + [9, 8, 7, 6, 5, 4] + signs + acts,
            sizes + [4, 7, 9] + [1, 2, 3, 4, 5, 6] + [9, 8, 7, 6, 5, 4] + [1, 0, 1] + acts,
            TOLD,
        ]
        self.assertEqual(run(line)[1::2], steps)
        self.assertEqual(run(line)[::2], [[0], [1], [1], [1], [0], [0], [0], [0]])

    def test_each_call_alone_after_a_begin(self):
        start = [begin(2, 3, 2)]
        self.assertEqual(last(start + [weight(1, 5), STATE]), [2, 3, 2, 1, 5, 1, 0, 0, 1, 1, 0, 0, 1, 0, 0, 0, 0, 0])
        self.assertEqual(last(start + [pays([6, 7, 8, 9]), STATE]), [2, 3, 2, 1, 1, 6, 7, 8, 9, 1, 0, 0, 1] + [0] * 5)
        self.assertEqual(last(start + [wants([6, 7, 8, 9]), STATE]), [2, 3, 2, 1, 1, 1, 0, 0, 1, 6, 7, 8, 9] + [0] * 5)
        self.assertEqual(last(start + [send([2, 1]), STATE]), new(2, 3, 2)[:-5] + [2, 1, 0, 0, 0])
        self.assertEqual(last(start + [act([1, 0, 1]), STATE]), new(2, 3, 2)[:-3] + [1, 0, 1])

    def test_after_each_refusal(self):
        for call, refusal in REFUSED:
            self.assertEqual(run(CHANGED + [call, STATE])[-2:], [[refusal], TOLD], call)

    def test_after_many_refusals(self):
        line = CHANGED + [call for call, refusal in REFUSED] + [STATE]
        self.assertEqual(run(line)[8:], [[refusal] for call, refusal in REFUSED] + [TOLD])

    def test_after_each_question(self):
        for call in QUESTIONS:
            told = run(CHANGED + [call, STATE, call, STATE])
            self.assertEqual(told[-3::2], [TOLD, TOLD], call)
            self.assertEqual(told[-2], told[-4], call)

    def test_after_each_question_with_signs_enough(self):
        start = [begin(2, 3, 2), weight(1, 5), pays([6, 7, 8, 3]), wants([4, 2, 0, 9]), send([2, 1]), act([1, 0, 1])]
        told = [2, 3, 2, 1, 5, 6, 7, 8, 3, 4, 2, 0, 9, 2, 1, 1, 0, 1]
        for call in QUESTIONS:
            self.assertEqual(run(start + [call, STATE])[-1], told, call)
        self.assertEqual(run(start + QUESTIONS + QUESTIONS + [STATE])[-1], told)
