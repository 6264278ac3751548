"""nothing, honest and envies."""

import unittest

from tests.lines import (
    ENVIES, HONEST, NOTHING, REST, SIZES, WORTH, act, begin, last, pays, run, send, wants, weight,
)

TURNED = wants([0, 1, 1, 0])
EACH_ITS_OWN = [1, 0, 0, 0, 1, 0, 0, 0, 1]


class Nothing(unittest.TestCase):
    def test_before_a_begin(self):
        self.assertEqual(run([NOTHING, begin(1, 1, 0), NOTHING]), [[-11], [-22], [-11]])

    def test_right_after_a_begin(self):
        # By act 0 way 0 has 1; where there are more acts another way would have it by another one.
        for n, m, k in SIZES:
            self.assertEqual(last([begin(n, m, k), NOTHING]), [1, 1] + [0] * n + [0] * m)

    def test_worth_to_who_acts_goes_first(self):
        line = [begin(2, 2, 2), weight(0, 2), weight(1, 3), pays([1, 4, 2, 5]), wants([7, 8, 9, 6]), NOTHING]
        # 2 * 4 + 3 * 5, 2 * 8 + 3 * 6
        self.assertEqual(last(line), [23, 34, 0, 0, 1, 1])

    def test_the_first_of_several_acts(self):
        for m in (1, 2, 3):
            line = [begin(2, m, 3), pays([0, 3, 2, 1, 2, 3]), wants([1, 1, 9, 1, 1, 9]), NOTHING]
            self.assertEqual(last(line), [5, 2, 0, 0] + [1] * m)
            line = [begin(2, m, 3), pays([2, 3, 0, 3, 2, 1]), wants([1, 9, 9, 1, 9, 9]), NOTHING]
            self.assertEqual(last(line), [5, 2, 0, 0] + [0] * m)
            line = [begin(2, m, 3), pays([2, 1, 4, 1, 2, 4]), wants([9, 9, 3, 9, 9, 4]), NOTHING]
            self.assertEqual(last(line), [8, 7, 0, 0] + [2] * m)

    def test_weights_decide(self):
        start = [begin(2, 2, 2), pays([3, 0, 0, 2])]
        self.assertEqual(last(start + [NOTHING]), [3, 1, 0, 0, 0, 0])
        self.assertEqual(last(start + [weight(1, 2), NOTHING]), [4, 2, 0, 0, 1, 1])
        # 3 * 2 and 2 * 3 are alike: the first act.
        self.assertEqual(last(start + [weight(1, 3), weight(0, 2), NOTHING]), [6, 2, 0, 0, 0, 0])

    def test_wants_do_not_decide(self):
        self.assertEqual(last([begin(1, 1, 2), wants([0, 9]), NOTHING]), [1, 0, 0, 0])

    def test_one_sign_and_three(self):
        start = [weight(2, 4), pays([5, 0, 5, 0, 0, 2]), wants([0, 1, 0, 2, 0, 3])]
        # 5 + 5 + 0 by act 0, 4 * 2 by act 1
        self.assertEqual(last([begin(3, 1, 2)] + start + [NOTHING]), [10, 0, 0, 0, 0, 0])
        self.assertEqual(last([begin(3, 3, 2)] + start + [NOTHING]), [10, 0, 0, 0, 0, 0, 0, 0])
        # 4 * 2 and 6 * 2; 1 + 2 + 6 * 3
        self.assertEqual(last([begin(3, 1, 2)] + start + [weight(2, 6), NOTHING]), [12, 21, 0, 0, 0, 1])
        self.assertEqual(last([begin(3, 3, 2)] + start + [weight(2, 6), NOTHING]), [12, 21, 0, 0, 0, 1, 1, 1])

    def test_the_plan_has_no_part_in_it(self):
        line = [begin(2, 2, 2), pays([0, 2, 0, 2]), send([1, 0]), act([0, 1]), NOTHING, WORTH]
        self.assertEqual(run(line)[-2:], [[4, 1, 0, 0, 1, 1], [2, 0, 2]])


class Told(unittest.TestCase):
    def assert_told(self, line, honest, envies):
        self.assertEqual(run(line + [HONEST, ENVIES])[-2:], [honest, envies], line)


class Refused(Told):
    def test_before_a_begin(self):
        self.assertEqual(run([HONEST, ENVIES, begin(3, 2, 4), HONEST, ENVIES]), [[-11], [-11], [-22], [-11], [-11]])

    def test_fewer_signs_than_ways(self):
        for n, m, k in SIZES:
            told = run([begin(n, m, k), HONEST, ENVIES])[1:]
            if m < n:
                self.assertEqual(told, [[-33], [-33]], (n, m, k))
            else:
                self.assertEqual(told[0], [1, min(n, k), min(n, k)], (n, m, k))
                self.assertEqual(told[1], [0], (n, m, k))

    def test_a_begin_again_may_let_it_be(self):
        line = [begin(3, 2, 1), HONEST, ENVIES, begin(2, 2, 1), HONEST, ENVIES, begin(2, 1, 1), HONEST, ENVIES]
        self.assertEqual(run(line), [[0], [-33], [-33], [0], [1, 1, 1], [0], [0], [-33], [-33]])


class AsManySignsAsWays(Told):
    def test_one_of_each(self):
        self.assert_told([begin(1, 1, 1), weight(0, 5), pays([3]), wants([4])], [1, 15, 20], [0])

    def test_both_want_the_same(self):
        self.assert_told([begin(2, 2, 2)], [1, 2, 2], [0])

    def test_wants_turned_about(self):
        self.assert_told([begin(2, 2, 2), TURNED], [0, 2, 0], [2, 0, 1, 1, 0])

    def test_one_envies_another_and_not_the_other_way_about(self):
        self.assert_told([begin(2, 2, 2), wants([0, 1, 0, 1])], [0, 2, 1], [1, 0, 1])
        self.assert_told([begin(2, 2, 2), wants([1, 0, 1, 0])], [0, 2, 1], [1, 1, 0])

    def test_as_much_is_no_envy(self):
        self.assert_told([begin(2, 2, 2), wants([5, 5, 7, 7])], [1, 2, 12], [0])

    def test_the_first_act_of_several(self):
        # For way 0 either act pays 4, so act 0 is done, though act 1 is wanted.
        self.assert_told([begin(2, 2, 2), pays([4, 4, 0, 3]), wants([1, 8, 0, 2])], [0, 7, 3], [1, 0, 1])
        # With the acts of way 1 alike both have act 0, and there's nothing to envy.
        self.assert_told([begin(2, 2, 2), pays([4, 4, 3, 3]), wants([1, 8, 0, 2])], [1, 7, 1], [0])
        # For way 0 acts 1 and 2 pay the most.
        line = [begin(2, 2, 3), pays([2, 6, 6, 0, 0, 1]), wants([9, 5, 3, 9, 1, 2])]
        self.assert_told(line, [1, 7, 7], [0])

    def test_acts_that_nobody_does_are_not_envied(self):
        self.assert_told([begin(2, 2, 3), wants([1, 0, 9, 0, 1, 9])], [1, 2, 2], [0])

    def test_weights_count_in_worth_and_not_in_envy(self):
        start = [begin(2, 2, 2), weight(0, 9), weight(1, 2), pays([7, 1, 2, 6])]
        # 9 * 7 + 2 * 6; 9 * 4 + 2 * 3
        self.assert_told(start + [wants([4, 1, 2, 3])], [1, 75, 42], [0])
        # The lighter way's envy is enough.
        self.assert_told(start + [wants([9, 0, 4, 3])], [0, 75, 87], [1, 1, 0])

    def test_one_act(self):
        self.assert_told([begin(3, 3, 1), wants([1, 5, 9])], [1, 1, 15], [0])

    def test_several_in_order(self):
        line = [begin(3, 3, 3), pays(EACH_ITS_OWN), wants([0, 1, 2, 2, 1, 0, 5, 5, 5])]
        self.assert_told(line, [0, 3, 6], [3, 0, 1, 0, 2, 1, 0])
        line = [begin(3, 3, 3), pays(EACH_ITS_OWN), wants([3, 2, 1, 0, 4, 5, 9, 7, 6])]
        self.assert_told(line, [0, 3, 13], [3, 1, 2, 2, 0, 2, 1])

    def test_all_envy_all_others(self):
        line = [begin(3, 3, 3), wants([1 - number for number in EACH_ITS_OWN])]
        self.assert_told(line, [0, 3, 0], [6, 0, 1, 0, 2, 1, 0, 1, 2, 2, 0, 2, 1])

    def test_each_alone(self):
        for s in range(3):
            for t in range(3):
                if s != t:
                    wanted = [3 if at == s * 3 + t else 2 for at in range(9)]
                    self.assert_told([begin(3, 3, 3), wants(wanted)], [0, 3, 6], [1, s, t])

    def test_acts_crossed(self):
        # Way 0 has act 1, way 1 act 0: what's done for t is not act t.
        line = [begin(2, 2, 2), pays([0, 4, 6, 0]), wants([7, 3, 5, 1])]
        self.assert_told(line, [0, 10, 8], [1, 0, 1])

    def test_two_ways_with_the_same_act(self):
        # Ways 0 and 2 have act 0; way 1 envies both.
        line = [begin(3, 3, 2), pays([1, 0, 0, 1, 1, 0]), wants([1, 0, 1, 0, 1, 0])]
        self.assert_told(line, [0, 3, 2], [2, 1, 0, 1, 2])

    def test_the_plan_has_no_part_in_it(self):
        for plan in ([], [send([1, 0]), act([1, 1])], [send([1, 1]), act([1, 0])]):
            self.assert_told([begin(2, 2, 2), wants([0, 1, 0, 1])] + plan, [0, 2, 1], [1, 0, 1])


class MoreSignsThanWays(Told):
    def test_a_sign_that_is_not_given_has_act_0(self):
        # Nobody is envied, but by sign 1 who gives signs would have act 0.
        for m in (2, 3):
            self.assert_told([begin(1, m, 2), pays([0, 1]), wants([1, 0])], [0, 1, 0], [0])
            self.assert_told([begin(1, m, 2), pays([0, 1]), wants([0, 1])], [1, 1, 1], [0])
            self.assert_told([begin(1, m, 2), pays([1, 0]), wants([0, 1])], [1, 1, 0], [0])

    def test_no_other_act_is_to_be_had(self):
        # Act 2 is wanted, and isn't done for any sign.
        self.assert_told([begin(1, 3, 3), pays([1, 8, 0]), wants([0, 5, 9])], [1, 8, 5], [0])

    def test_two_ways_three_signs(self):
        start = [begin(2, 3, 3), pays([0, 1, 0, 0, 0, 1])]
        self.assert_told(start + [wants([0, 1, 0, 0, 0, 1])], [1, 2, 2], [0])
        self.assert_told(start + [wants([2, 1, 0, 0, 0, 1])], [0, 2, 2], [0])
        self.assert_told(start + [wants([0, 1, 0, 2, 0, 1])], [0, 2, 2], [0])
        self.assert_told(start + [wants([0, 1, 2, 0, 0, 1])], [0, 2, 2], [1, 0, 1])
        self.assert_told(start + [wants([0, 1, 0, 0, 3, 1])], [0, 2, 2], [1, 1, 0])

    def test_it_is_the_same_as_the_plan_set_by_hand(self):
        line = [begin(2, 3, 3), weight(1, 4), pays([0, 1, 0, 0, 0, 1]), wants([3, 3, 1, 1, 0, 2])]
        told = run(line + [send([0, 1]), act([1, 2, 0]), REST, WORTH, HONEST])[-3:]
        self.assertEqual(told, [[1], [5, 11, 5], [1, 5, 11]])
