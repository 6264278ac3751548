"""rests, and lines of calls at random, held against a plain count over all plans."""

import random
import unittest

from tests.lines import (
    BETTER, REST, RESTS, SIZES, WORTH, Plain, act, at_random, begin, last, pays, run, send, set_all, wants, weight,
)


class ByHand(unittest.TestCase):
    def test_one_of_each(self):
        self.assertEqual(last([begin(1, 1, 1), RESTS]), [1, 1])

    def test_both_want_the_same(self):
        # Each way its own sign and act: 2; one sign and one act for all: 4.
        self.assertEqual(last([begin(2, 2, 2), RESTS]), [6, 2])

    def test_wants_turned_about(self):
        self.assertEqual(last([begin(2, 2, 2), wants([0, 1, 1, 0]), RESTS]), [4, 1])

    def test_one_sign(self):
        self.assertEqual(last([begin(2, 1, 2), RESTS]), [2, 1])
        self.assertEqual(last([begin(2, 1, 2), weight(1, 2), RESTS]), [1, 1])

    def test_more_signs_than_ways(self):
        # Any sign with act 0; what's done for the other two doesn't matter.
        self.assertEqual(last([begin(1, 3, 2), RESTS]), [12, 1])
        # It matters if there the other act is wanted.
        self.assertEqual(last([begin(1, 3, 2), wants([0, 1]), RESTS]), [3, 1])

    def test_all_wants_alike(self):
        # Two ways apart: 1 each; together: either act, and any act for the other sign.
        self.assertEqual(last([begin(2, 2, 2), wants([5, 5, 5, 5]), RESTS]), [10, 2])

    def test_all_alike_for_both(self):
        line = [begin(3, 3, 3), pays([4] * 9), wants([7] * 9), RESTS]
        self.assertEqual(last(line), [729, 3])

    def test_the_plan_has_no_part_in_it(self):
        line = [begin(2, 2, 2), send([1, 0]), act([1, 1]), RESTS, WORTH, RESTS]
        self.assertEqual(run(line)[3:], [[6, 2], [1, 1, 2], [6, 2]])


class ByCount(unittest.TestCase):
    def assert_counted(self, plain):
        self.assertEqual(last(set_all(plain) + [RESTS]), plain.rests(), set_all(plain))

    def test_right_after_a_begin(self):
        for sizes in SIZES:
            self.assertEqual(last([begin(*sizes), RESTS]), Plain(*sizes).rests(), sizes)

    def test_wants_turned_about(self):
        for sizes in SIZES:
            plain = at_random(random.Random(1), sizes, 9)
            plain.wants = [9 - number for number in plain.pays]
            self.assert_counted(plain)

    def test_all_wants_alike(self):
        for sizes in SIZES:
            plain = at_random(random.Random(2), sizes, 3)
            plain.wants = [5] * len(plain.wants)
            self.assert_counted(plain)

    def test_wants_as_the_pays(self):
        for sizes in SIZES:
            plain = at_random(random.Random(3), sizes, 9)
            plain.wants = plain.pays
            self.assert_counted(plain)

    def test_at_random(self):
        source = random.Random(4)
        for most in (1, 2, 9):
            for sizes in SIZES:
                self.assert_counted(at_random(source, sizes, most))

    def test_worth_rest_and_better_at_random(self):
        source = random.Random(5)
        for most in (1, 2, 9):
            for sizes in SIZES * 4:
                plain = at_random(source, sizes, most)
                self.assertEqual(run(set_all(plain) + [WORTH, REST, BETTER])[-3:], plain.told(), set_all(plain))

    def test_every_plan_is_asked_alone(self):
        # rests counts just those plans of which rest says 1.
        plain = at_random(random.Random(6), (2, 3, 2), 2)
        line = set_all(plain)
        found = 0
        for signs in plain.all_signs():
            for acts in plain.all_acts():
                found += last(line + [send(list(signs)), act(list(acts)), REST])[0]
        self.assertEqual(last(line + [RESTS])[0], found)


class FortyCalls(unittest.TestCase):
    def test_rests_many_times(self):
        source = random.Random(7)
        plain = at_random(source, (3, 3, 3), 2)
        line = set_all(plain)
        expected = []
        for step in range(16):
            s = step % 3
            other = at_random(source, (3, 3, 3), 2)
            # Weights, pays and wants change by turns, each with the others kept.
            if s == 0:
                plain.weights[1] = other.weights[1]
            elif s == 1:
                plain.pays = other.pays
            else:
                plain.wants = other.wants
            line += [[weight(1, plain.weights[1]), pays(plain.pays), wants(plain.wants)][s], RESTS]
            expected.append(plain.rests())
        self.assertEqual(len(line), 40)
        self.assertEqual(run(line)[9::2], expected)
        self.assertGreater(len(set(map(tuple, expected))), 6)

    def test_rests_alone(self):
        line = [begin(3, 3, 3), pays([0] * 9), wants([0] * 9)] + [RESTS] * 37
        self.assertEqual(run(line), [[0]] * 3 + [[729, 3]] * 37)

    def test_begun_again_and_again(self):
        line = []
        expected = []
        for sizes in SIZES[-20:]:
            line += [begin(*sizes), RESTS]
            expected += [[0], Plain(*sizes).rests()]
        self.assertEqual(len(line), 40)
        self.assertEqual(run(line), expected)
