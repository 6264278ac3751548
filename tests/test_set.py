"""begin, weight, pays, wants, send, act: what they set, and what they refuse."""

import unittest

from tests.lines import HUGE, SIZES, WORTH, act, begin, last, pays, run, seen, send, wants, weight

# All that can be set isn't as a begin sets it.
CHANGED = [
    begin(3, 2, 2), weight(0, 4), weight(1, 7), weight(2, 9), pays([1, 2, 3, 4, 5, 6]),
    wants([9, 8, 7, 6, 5, 4]), send([1, 0, 1]), act([1, 0]),
]


def new(n, m, k):
    """What an object has right after a begin."""
    plain = [1 if s == a else 0 for s in range(n) for a in range(k)]
    return {
        "weights": [[1]] * n,
        "no more ways": [-2],
        "all weights": n,
        "pays": plain,
        "wants": plain,
        "signs": [[0]] * n if k > 1 else [],
        "acts": [[0]] * m,
    }


class Sets(unittest.TestCase):
    def assert_refused(self, call, refusal, line=CHANGED, sizes=(3, 2, 2)):
        self.assertEqual(last(line + [call]), [refusal], call)
        self.assertEqual(seen(line + [call], *sizes), seen(line, *sizes), call)

    def assert_changes(self, call, what, value):
        """The call answers 0, and changes this alone."""
        expected = seen(CHANGED, 3, 2, 2)
        self.assertNotEqual(expected[what], value)
        expected[what] = value
        self.assertEqual(last(CHANGED + [call]), [0], call)
        self.assertEqual(seen(CHANGED + [call], 3, 2, 2), expected, call)


class Begin(Sets):
    def test_all_sizes(self):
        for sizes in SIZES:
            self.assertEqual(run([begin(*sizes)]), [[0]], sizes)
            self.assertEqual(seen([begin(*sizes)], *sizes), new(*sizes), sizes)

    def test_a_second_begin_sets_all_anew(self):
        for sizes in SIZES:
            self.assertEqual(last(CHANGED + [begin(*sizes)]), [0], sizes)
            self.assertEqual(seen(CHANGED + [begin(*sizes)], *sizes), new(*sizes), sizes)

    def test_sizes_that_are_not_1_to_3(self):
        for bad in (0, 4, 5, HUGE):
            for sizes in ((bad, 2, 2), (2, bad, 2), (2, 2, bad), (bad, bad, bad)):
                self.assert_refused(begin(*sizes), -22)


class Weight(Sets):
    def test_what_it_was(self):
        line = [begin(2, 1, 1), weight(0, 9), weight(0, 1), weight(1, 3), weight(0, 4), weight(1, 3), weight(1, 2)]
        self.assertEqual(run(line), [[0], [1], [9], [1], [1], [3], [3]])

    def test_each_way_has_its_own(self):
        expected = seen(CHANGED, 3, 2, 2)
        expected["weights"] = [[4], [2], [9]]
        expected["all weights"] = 15
        self.assertEqual(last(CHANGED + [weight(1, 2)]), [7])
        self.assertEqual(seen(CHANGED + [weight(1, 2)], 3, 2, 2), expected)

    def test_weights_that_are_right(self):
        for w in range(1, 10):
            self.assertEqual(run([begin(1, 1, 1), weight(0, w), WORTH])[1:], [[1], [w, w, w]])

    def test_weights_that_are_not(self):
        for w in (0, 10, 11, HUGE):
            for s in range(3):
                self.assert_refused(weight(s, w), -22)

    def test_ways_that_are_not(self):
        for n in (1, 2, 3):
            for s in (n, n + 1, 255, HUGE):
                self.assert_refused(weight(s, 5), -2, [begin(n, 2, 2), weight(0, 3)], (n, 2, 2))
            self.assertEqual(last([begin(n, 2, 2), weight(n - 1, 5)]), [1])

    def test_no_such_way_goes_ahead(self):
        for s in (3, HUGE):
            for w in (0, 10, HUGE):
                self.assert_refused(weight(s, w), -2)


class PaysAndWants(Sets):
    def test_pays_alone(self):
        self.assert_changes(pays([0, 9, 1, 8, 2, 7]), "pays", [0, 9, 1, 8, 2, 7])

    def test_wants_alone(self):
        self.assert_changes(wants([0, 9, 1, 8, 2, 7]), "wants", [0, 9, 1, 8, 2, 7])

    def test_right_after_a_begin_they_are_apart_too(self):
        line = [begin(2, 1, 2)]
        self.assertEqual(seen(line + [pays([5, 6, 7, 8])], 2, 1, 2)["wants"], [1, 0, 0, 1])
        self.assertEqual(seen(line + [wants([5, 6, 7, 8])], 2, 1, 2)["pays"], [1, 0, 0, 1])

    def test_all_sizes(self):
        for n, m, k in SIZES:
            right = [(3 * at + 1) % 10 for at in range(n * k)]
            for call, what in ((pays, "pays"), (wants, "wants")):
                self.assertEqual(last([begin(n, m, k), call(right)]), [0])
                self.assertEqual(seen([begin(n, m, k), call(right)], n, m, k)[what], right)
                for wrong in (right[1:], right + [0]):
                    self.assertEqual(last([begin(n, m, k), call(wrong)]), [-22])

    def test_the_least_and_the_most(self):
        for call, what in ((pays, "pays"), (wants, "wants")):
            for number in (0, 9):
                self.assert_changes(call([number] * 6), what, [number] * 6)

    def test_refused(self):
        for call in (pays, wants):
            for wrong in ([], [1] * 5, [1] * 7, [1] * 4, [1] * 9, [0] * 255, [HUGE] * 255):
                self.assert_refused(call(wrong), -22)

    def test_one_number_that_is_not_right(self):
        for call in (pays, wants):
            for bad in (10, 11, HUGE):
                for at in range(6):
                    self.assert_refused(call([9] * at + [bad] + [9] * (5 - at)), -22)


class SendAndAct(Sets):
    def test_send_alone(self):
        self.assert_changes(send([0, 1, 0]), "signs", [[0], [1], [0]])
        self.assert_changes(send([1, 1, 1]), "signs", [[1], [1], [1]])

    def test_act_alone(self):
        self.assert_changes(act([0, 1]), "acts", [[0], [1]])
        self.assert_changes(act([1, 1]), "acts", [[1], [1]])

    def test_the_last_sign_and_one_past_it(self):
        for n, m, k in SIZES:
            line = [begin(n, m, k)]
            for s in range(n):
                self.assertEqual(last(line + [send([0] * s + [m - 1] + [0] * (n - s - 1))]), [0])
                for bad in (m, HUGE):
                    self.assertEqual(last(line + [send([0] * s + [bad] + [0] * (n - s - 1))]), [-22])

    def test_the_last_act_and_one_past_it(self):
        for n, m, k in SIZES:
            line = [begin(n, m, k)]
            for j in range(m):
                self.assertEqual(last(line + [act([0] * j + [k - 1] + [0] * (m - j - 1))]), [0])
                for bad in (k, HUGE):
                    self.assertEqual(last(line + [act([0] * j + [bad] + [0] * (m - j - 1))]), [-22])

    def test_lengths(self):
        for n, m, k in SIZES:
            for size in (0, 1, 2, 3, 4, 255):
                self.assertEqual(last([begin(n, m, k), send([0] * size)]), [0 if size == n else -22])
                self.assertEqual(last([begin(n, m, k), act([0] * size)]), [0 if size == m else -22])

    def test_refused_changes_nothing(self):
        for wrong in ([], [0, 1], [0, 1, 0, 1], [0, 1, 2], [2, 0, 0], [HUGE, 0, 0], [0] * 255):
            self.assert_refused(send(wrong), -22)
        for wrong in ([], [0], [0, 1, 0], [0, 2], [2, 0], [HUGE, 0], [0] * 255):
            self.assert_refused(act(wrong), -22)
