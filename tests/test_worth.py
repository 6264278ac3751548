"""worth, rest and better."""

import unittest

from tests.lines import BETTER, REST, WORTH, act, begin, pays, run, send, wants, weight

TURNED = wants([0, 1, 1, 0])


class Told(unittest.TestCase):
    def assert_told(self, line, worth, rest, better):
        told = run([begin(2, 2, 2)] + line + [WORTH, REST, BETTER])[-3:]
        self.assertEqual(told, [worth, [rest], better])
        # To stay with the plan is among what could be done.
        self.assertGreaterEqual(better[0], worth[1])
        self.assertGreaterEqual(better[1], worth[0])
        self.assertEqual(rest == 1, better == [worth[1], worth[0]])


class WorthRestBetter(Told):
    def test_at_rest_for_both(self):
        self.assert_told([send([0, 1]), act([0, 1])], [2, 2, 2], 1, [2, 2])

    def test_at_rest_for_who_acts_alone(self):
        self.assert_told([TURNED, send([0, 1]), act([0, 1])], [2, 0, 2], 0, [2, 2])

    def test_at_rest_for_who_gives_signs_alone(self):
        self.assert_told([TURNED, send([0, 1]), act([1, 0])], [0, 2, 2], 0, [2, 2])

    def test_at_rest_for_neither(self):
        self.assert_told([send([0, 1]), act([1, 0])], [0, 0, 2], 0, [2, 2])

    def test_to_tell_nothing_is_at_rest(self):
        self.assert_told([], [1, 1, 2], 1, [1, 1])
        self.assert_told([TURNED], [1, 1, 2], 1, [1, 1])

    def test_weights_and_wants_count(self):
        line = [weight(0, 3), weight(1, 5), pays([1, 2, 3, 4]), wants([9, 0, 2, 7])]
        # 3 * 2 + 5 * 3, 3 * 0 + 5 * 2; 3 * 9 + 5 * 7, 3 * 2 + 5 * 4
        self.assert_told(line + [send([0, 1]), act([1, 0])], [21, 10, 8], 0, [62, 26])
        # 3 * 1 + 5 * 4, 3 * 9 + 5 * 7; by other acts 3 * 2 + 5 * 4
        self.assert_told(line + [send([0, 1]), act([0, 1])], [23, 62, 8], 0, [62, 26])

    def test_weights_may_turn_what_is_best(self):
        line = [pays([3, 0, 0, 2]), wants([0, 0, 0, 0])]
        self.assert_told(line, [3, 0, 2], 1, [0, 3])
        self.assert_told(line + [weight(1, 2)], [3, 0, 3], 0, [0, 4])

    def test_ways_with_one_sign_have_one_act(self):
        line = [weight(1, 2), pays([9, 0, 0, 4])]
        self.assert_told(line + [act([0, 0])], [9, 1, 3], 1, [1, 9])
        self.assert_told(line + [act([1, 1])], [8, 2, 3], 0, [2, 9])
        self.assert_told(line + [send([1, 0]), act([1, 0])], [17, 3, 3], 1, [3, 17])

    def test_other_signs_bring_only_acts_that_are_done(self):
        line = [wants([0, 9, 0, 9])]
        self.assert_told(line + [act([0, 0])], [1, 0, 2], 1, [0, 1])
        self.assert_told(line + [act([0, 1])], [1, 0, 2], 0, [18, 1])

    def test_the_most_that_it_can_be(self):
        line = [weight(0, 9), weight(1, 9), pays([9] * 4), wants([9] * 4)]
        self.assert_told(line, [162, 162, 18], 1, [162, 162])

    def test_nothing_paid_nothing_wanted(self):
        self.assert_told([pays([0] * 4), wants([0] * 4), weight(0, 4)], [0, 0, 5], 1, [0, 0])


class OtherSizes(unittest.TestCase):
    def test_one_of_each(self):
        line = [begin(1, 1, 1), weight(0, 7), pays([3]), wants([4]), WORTH, REST, BETTER]
        self.assertEqual(run(line)[-3:], [[21, 28, 7], [1], [28, 21]])

    def test_one_sign(self):
        # No other sign is there; by act 1 it's 2 + 7, by act 2 it's 5 + 3.
        line = [begin(2, 1, 3), pays([0, 2, 5, 1, 7, 3]), wants([9, 0, 0, 9, 0, 0]), act([2]), WORTH, REST, BETTER]
        self.assertEqual(run(line)[-3:], [[8, 0, 2], [0], [0, 9]])

    def test_more_signs_than_ways(self):
        line = [begin(1, 3, 2), pays([4, 1]), wants([1, 4]), act([0, 0, 1]), WORTH, REST, BETTER]
        self.assertEqual(run(line)[-3:], [[4, 1, 1], [0], [4, 4]])
        line = [begin(1, 3, 2), pays([4, 1]), wants([1, 4]), act([0, 0, 0]), WORTH, REST, BETTER]
        self.assertEqual(run(line)[-3:], [[4, 1, 1], [1], [1, 4]])

    def test_three_of_each(self):
        line = [
            begin(3, 3, 3), weight(0, 2), weight(1, 3), weight(2, 4),
            pays([1, 2, 3, 4, 5, 6, 7, 8, 9]), wants([9, 1, 5, 2, 8, 3, 4, 4, 7]),
            send([2, 0, 2]), act([1, 0, 2]), WORTH, REST, BETTER,
        ]
        # 2 * 3 + 3 * 5 + 4 * 9, 2 * 5 + 3 * 8 + 4 * 7; 2 * 9 + 3 * 8 + 4 * 7, 3 * 6 + (2 * 3 + 4 * 9)
        self.assertEqual(run(line)[-3:], [[57, 62, 9], [0], [70, 60]])

    def test_asking_changes_nothing(self):
        line = [begin(2, 2, 2), TURNED, send([0, 1]), act([1, 0])] + [WORTH, REST, BETTER] * 3
        self.assertEqual(run(line)[4:], [[0, 2, 2], [0], [2, 2]] * 3)
