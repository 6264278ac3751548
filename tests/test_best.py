"""mosttold, bestgiver, bestactor, agree and cost: by hand, and against the plain search over all plans."""

import random
import unittest

from tests.lines import (
    AGREE, BESTACTOR, BESTGIVER, COST, MOSTTOLD, QUESTIONS, SIZES, Plain, act, at_random, begin, last, pays, run,
    send, set_all, wants, weight,
)

BEST = [MOSTTOLD, BESTGIVER, BESTACTOR, AGREE, COST]
TURNED = wants([0, 1, 1, 0])
# To tell apart brings who acts more, to tell nothing who gives signs.
APART_OR_NOT = [begin(2, 2, 3), pays([5, 0, 4, 0, 5, 4]), wants([1, 0, 9, 0, 1, 9])]


def torn(source, sizes):
    """Like APART_OR_NOT, for 2 ways and signs at least and 3 acts, somewhat at random: many don't agree."""
    plain = at_random(source, sizes, 1)
    plain.weights = [source.randint(1, 2) for s in range(plain.n)]
    order = source.sample(range(3), 3)
    for s in range(plain.n):
        own, shared = order[s % 2], order[2]
        for numbers, of_own, of_shared in ((plain.pays, 5, 3), (plain.wants, 2, 7)):
            numbers[s * 3 + own] += of_own
            numbers[s * 3 + shared] += of_shared
    return plain


class ByHand(unittest.TestCase):
    def assert_best(self, line, mosttold, bestgiver, bestactor, agree, cost):
        self.assertEqual(run(line + BEST)[-5:], [mosttold, bestgiver, bestactor, [agree], [cost]], line)

    def test_before_a_begin(self):
        self.assertEqual(run(BEST + [begin(0, 1, 1)] + BEST), [[-11]] * 5 + [[-22]] + [[-11]] * 5)

    def test_one_of_each(self):
        plan = [15, 20, 0, 0]
        self.assert_best([begin(1, 1, 1), weight(0, 5), pays([3]), wants([4])], plan, plan, plan, 1, 0)

    def test_both_want_the_same(self):
        plan = [2, 2, 0, 1, 0, 1]
        self.assert_best([begin(2, 2, 2)], plan, plan, plan, 1, 0)

    def test_wants_turned_about(self):
        plan = [1, 1, 0, 0, 0, 0]
        self.assert_best([begin(2, 2, 2), TURNED], plan, plan, plan, 1, 1)
        # By weights act 1 is best where nothing is told: 5 of 7.
        plan = [5, 2, 0, 0, 1, 1]
        self.assert_best([begin(2, 2, 2), TURNED, weight(0, 2), weight(1, 5)], plan, plan, plan, 1, 2)

    def test_they_do_not_agree(self):
        apart, nothing = [10, 2, 0, 1, 0, 1], [8, 18, 0, 0, 2, 0]
        self.assert_best(APART_OR_NOT, apart, nothing, apart, 0, 0)

    def test_they_agree_if_one_plan_is_as_good(self):
        # Who gives signs has the same by all plans; who acts has more by those that tell apart.
        line = [begin(2, 2, 3), pays([5, 0, 4, 0, 5, 4]), wants([3] * 6)]
        self.assert_best(line, [10, 6, 0, 1, 0, 1], [8, 6, 0, 0, 2, 0], [10, 6, 0, 1, 0, 1], 1, 0)

    def test_most_told_is_not_the_best(self):
        # Two ways are to have act 0: who gives signs may tell them apart or not.
        line = [begin(2, 2, 1), wants([4, 2])]
        self.assert_best(line, [1, 6, 0, 1, 0, 0], [1, 6, 0, 0, 0, 0], [1, 6, 0, 0, 0, 0], 1, 0)

    def test_most_told_has_the_least_for_who_gives_signs(self):
        found = run(APART_OR_NOT + [MOSTTOLD, BESTGIVER])[-2:]
        self.assertLess(found[0][1], found[1][1])

    def test_of_like_plans_the_first_by_signs_then_by_acts(self):
        line = [begin(3, 3, 3), pays([4] * 9), wants([7] * 9)]
        first = [12, 21, 0, 0, 0, 0, 0, 0]
        self.assert_best(line, [12, 21, 0, 1, 2, 0, 0, 0], first, first, 1, 0)
        # Only act 2 pays: sign 0 for each way, act 2 for sign 0, then the least acts.
        line = [begin(3, 3, 3), pays([0, 0, 4] * 3), wants([7] * 9)]
        first = [12, 21, 0, 0, 0, 2, 0, 0]
        self.assert_best(line, [12, 21, 0, 1, 2, 2, 2, 2], first, first, 1, 0)

    def test_signs_that_are_not_given_may_matter(self):
        # Act 0 for the other sign would be taken: so it's act 1 there too.
        line = [begin(1, 2, 2), pays([0, 1]), wants([1, 0])]
        self.assert_best(line, *[[1, 0, 0, 1, 1]] * 3, 1, 0)

    def test_one_sign(self):
        # Acts 1 and 2 are at rest, worth 6 each; with more signs it'd be 5 + 6.
        line = [begin(2, 1, 3), pays([5, 0, 1, 0, 6, 5]), wants([0, 1, 2, 0, 1, 3])]
        self.assert_best(line, [6, 2, 0, 0, 1], [6, 5, 0, 0, 2], [6, 2, 0, 0, 1], 1, 0)

    def test_the_plan_has_no_part_in_it(self):
        self.assertEqual(
            run(APART_OR_NOT + [send([1, 0]), act([2, 1])] + BEST)[-5:], run(APART_OR_NOT + BEST)[-5:]
        )

    def test_cost_by_weights(self):
        for w in range(1, 10):
            line = [begin(2, 2, 2), TURNED, weight(0, w), COST]
            self.assertEqual(last(line), [1])
            self.assertEqual(last(line[:-1] + [weight(1, w), COST]), [w])

    def test_cost_is_the_most_it_can_be(self):
        line = [begin(2, 2, 2), weight(0, 9), weight(1, 9), pays([9, 0, 0, 9]), wants([0, 9, 9, 0]), COST]
        self.assertEqual(last(line), [81])


class BySearch(unittest.TestCase):
    def assert_searched(self, plain):
        told = plain.questions()
        line = set_all(plain)
        self.assertEqual(run(line + QUESTIONS)[len(line):], told, line)
        return told

    def test_right_after_a_begin(self):
        for sizes in SIZES:
            self.assertEqual(run([begin(*sizes)] + QUESTIONS)[1:], Plain(*sizes).questions(), sizes)

    def test_at_random(self):
        source = random.Random(11)
        told = []
        for most in (1, 2, 3, 9):
            for sizes in SIZES * 2:
                told.append(self.assert_searched(at_random(source, sizes, most)))
        # Few are alike: the search has seen what there is to be seen.
        self.assertGreater(len({each[11][0] for each in told}), 5)
        self.assertGreater(len([each for each in told if each[4] != each[5]]), 20)
        self.assertGreater(len([each for each in told if each[4] != each[6]]), 20)
        self.assertGreater(len([each for each in told if each[5] != each[6]]), 5)

    def test_the_largest(self):
        source = random.Random(12)
        for most in (1, 2, 3, 5, 9, 9, 9, 9):
            self.assert_searched(at_random(source, (3, 3, 3), most))

    def test_many_that_do_not_agree(self):
        source = random.Random(13)
        for n in (2, 3):
            for m in (2, 3):
                found = [self.assert_searched(torn(source, (n, m, 3)))[10] for step in range(20)]
                self.assertGreater(found.count([0]), 3)
                self.assertGreater(found.count([1]), 3)

    def test_both_want_the_same(self):
        source = random.Random(14)
        for sizes in SIZES:
            plain = at_random(source, sizes, 9)
            plain.wants = plain.pays
            self.assertEqual(self.assert_searched(plain)[10:12], [[1], [0]])

    def test_wants_turned_about(self):
        source = random.Random(15)
        for most in (1, 9):
            for sizes in SIZES:
                plain = at_random(source, sizes, most)
                plain.wants = [most - number for number in plain.pays]
                self.assert_searched(plain)

    def test_all_wants_alike(self):
        source = random.Random(16)
        for sizes in SIZES:
            plain = at_random(source, sizes, 9)
            plain.wants = [6] * len(plain.pays)
            self.assert_searched(plain)
