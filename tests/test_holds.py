"""What holds over the whole program, the corners that the document names, and lines of forty calls."""

import itertools
import random
import unittest

from tests.lines import (
    AGREE, BESTACTOR, BESTGIVER, BETTER, COST, ENVIES, HONEST, MOSTTOLD, NOTHING, QUESTIONS, REST, RESTS, SIZES,
    WORTH, Plain, act, at_random, begin, last, pays, run, send, set_all, wants, weight,
)


def every_two_by_two():
    """Each table of 2 ways, 2 signs and 2 acts with pays and wants of 0 and 1, with weights by turns."""
    tables = itertools.product(itertools.product((0, 1), repeat=4), repeat=2)
    for number, (paid, wanted) in enumerate(tables):
        plain = Plain(2, 2, 2)
        plain.pays, plain.wants = list(paid), list(wanted)
        plain.weights = [[1, 1], [2, 1], [1, 3]][number % 3]
        yield plain


def many(seed):
    """Tables of all sizes at random, with few numbers and with many."""
    source = random.Random(seed)
    for most in (1, 2, 9):
        for sizes in SIZES * 2:
            yield at_random(source, sizes, most)


def split(plain, told):
    """The signs and the acts of a plan that is answered."""
    return told[2:2 + plain.n], told[2 + plain.n:]


class WhatHolds(unittest.TestCase):
    def assert_rest(self, plain, told):
        """The answered plan is at rest for both, and worth what is told of it."""
        signs, acts = split(plain, told)
        self.assertEqual(run(set_all(plain) + [send(signs), act(acts), WORTH, REST])[-2:], [
            told[:2] + [sum(plain.weights)], [1],
        ], set_all(plain))

    def test_to_tell_nothing_is_at_rest(self):
        for plain in itertools.chain(every_two_by_two(), many(21)):
            told = last(set_all(plain) + [NOTHING])
            self.assert_rest(plain, told)
            self.assertEqual(told[2:2 + plain.n], [0] * plain.n)
            self.assertEqual(len(set(told[2 + plain.n:])), 1)

    def test_the_best_are_at_rest(self):
        for plain in many(22):
            for told in run(set_all(plain) + [MOSTTOLD, BESTGIVER, BESTACTOR])[-3:]:
                self.assert_rest(plain, told)

    def test_honesty_is_at_rest_just_if_no_other_sign_brings_more(self):
        found = {0: 0, 1: 0}
        for plain in itertools.chain(every_two_by_two(), many(23)):
            if plain.m >= plain.n:
                acts = plain.honest_plan()[1]
                rows = [plain.wants[s * plain.k:(s + 1) * plain.k] for s in range(plain.n)]
                more = [1 for s in range(plain.n) for j in range(plain.m) if rows[s][acts[j]] > rows[s][acts[s]]]
                told = last(set_all(plain) + [HONEST])[0]
                self.assertEqual(told, 0 if more else 1, set_all(plain))
                found[told] += 1
        self.assertGreater(min(found.values()), 30)

    def test_as_many_signs_as_ways_honesty_is_at_rest_just_if_nobody_envies(self):
        for plain in itertools.chain(every_two_by_two(), many(24)):
            if plain.m == plain.n:
                honest, envies = run(set_all(plain) + [HONEST, ENVIES])[-2:]
                self.assertEqual(honest[0] == 1, envies == [0], set_all(plain))

    def test_at_rest_who_acts_has_no_less_than_by_nothing(self):
        for plain in itertools.chain(every_two_by_two(), many(25)):
            told = run(set_all(plain) + [NOTHING, MOSTTOLD, BESTGIVER, BESTACTOR])[-4:]
            for each in told[1:]:
                self.assertGreaterEqual(each[0], told[0][0], set_all(plain))

    def test_at_every_plan_at_rest_who_acts_has_no_less_than_by_nothing(self):
        source = random.Random(26)
        for sizes in SIZES[:-1]:
            plain = at_random(source, sizes, 4)
            line = set_all(plain)
            least = last(line + [NOTHING])[0]
            for signs, acts in plain.all_plans()[::3]:
                told = run(line + [send(list(signs)), act(list(acts)), REST, WORTH])[-2:]
                self.assertTrue(told[0] == [0] or told[1][0] >= least, (line, signs, acts))

    def test_where_both_want_the_same_the_best_plan_is_at_rest(self):
        for plain in itertools.chain(every_two_by_two(), many(27)):
            plain.wants = plain.pays
            best = plain.first_most(plain.all_plans(), lambda plan: plain.worths(plan)[0])
            self.assert_rest(plain, plain.whole(best))
            told = run(set_all(plain) + [BESTGIVER, BESTACTOR, AGREE, COST])[-4:]
            self.assertEqual(told, [plain.whole(best), plain.whole(best), [1], [0]], set_all(plain))

    def test_what_is_refused_changes_nothing(self):
        refused = [
            begin(0, 1, 1), begin(1, 1, 4), weight(3, 1), weight(0, 0), weight(0, 10), pays([10] * 9), pays([]),
            wants([10] * 9), wants([1] * 8), send([3] * 3), send([0] * 4), act([3] * 3), act([0] * 4), HONEST, ENVIES,
        ]
        plain = at_random(random.Random(28), (3, 2, 3), 9)
        line = set_all(plain)
        told = run(line + QUESTIONS)[len(line):]
        self.assertEqual(run(line + refused + QUESTIONS)[-13:], told)
        self.assertTrue(all(each[0] < 0 for each in run(line + refused)[len(line):]))


class Corners(unittest.TestCase):
    def assert_all(self, line, calls, told):
        self.assertEqual(run(line + calls)[len(line):], told, line)

    def test_wants_that_are_the_pays_turned_about(self):
        # One sign for all ways and one act for all signs: any other act would be taken by the way that has its own.
        line = [begin(3, 3, 3), pays([9, 0, 0, 0, 9, 0, 0, 0, 9]), wants([0, 9, 9, 9, 0, 9, 9, 9, 0])]
        self.assert_all(line, [NOTHING, HONEST, RESTS, AGREE, COST, BESTACTOR], [
            [9, 18, 0, 0, 0, 0, 0, 0], [0, 27, 0], [9, 1], [1], [18], [9, 18, 0, 0, 0, 0, 0, 0],
        ])

    def test_one_way_that_envies_another_and_not_the_other_way_about(self):
        line = [begin(2, 2, 2), wants([2, 0, 3, 1])]
        # Way 1 would rather be taken for way 0, so nothing can be told.
        self.assert_all(line, [ENVIES, HONEST, RESTS, MOSTTOLD, COST], [
            [1, 1, 0], [0, 2, 3], [6, 1], [1, 5, 0, 0, 0, 0], [1],
        ])

    def test_a_lie_that_helps_both(self):
        line = [begin(2, 2, 2), send([0, 1]), act([1, 0])]
        self.assert_all(line, [WORTH, REST, BETTER, send([1, 0]), WORTH, REST, BETTER], [
            [0, 0, 2], [0], [2, 2], [0], [2, 2, 2], [1], [2, 2],
        ])
        # Way 0 given out for way 1: who acts loses nothing by it.
        line = [begin(2, 2, 2), pays([4, 4, 0, 3]), wants([1, 8, 0, 2])]
        self.assert_all(line, [HONEST, ENVIES, send([1, 1]), act([0, 1]), WORTH, REST, BESTGIVER, BESTACTOR, AGREE], [
            [0, 7, 3], [1, 0, 1], [0], [0], [7, 10, 2], [1], [7, 10, 0, 0, 1, 0], [7, 10, 0, 0, 1, 0], [1],
        ])

    def test_one_sign(self):
        line = [begin(3, 1, 3), weight(2, 2), wants([0, 1, 0, 1, 0, 0, 1, 1, 0])]
        self.assert_all(line, [NOTHING, HONEST, ENVIES, RESTS, MOSTTOLD, BESTGIVER, BESTACTOR, AGREE, COST], [
            [2, 0, 0, 0, 0, 2], [-33], [-33], [1, 1], [2, 0, 0, 0, 0, 2], [2, 0, 0, 0, 0, 2], [2, 0, 0, 0, 0, 2],
            [1], [0],
        ])

    def test_nothing_told_and_nothing_lost(self):
        # Act 1 is the best for either way, whatever who gives signs would have.
        line = [begin(2, 2, 2), pays([1, 5, 2, 6]), wants([9, 0, 9, 0])]
        self.assert_all(line, [NOTHING, BESTACTOR, COST, RESTS, HONEST, ENVIES], [
            [11, 0, 0, 0, 1, 1], [11, 0, 0, 0, 1, 1], [0], [4, 2], [1, 11, 0], [0],
        ])

    def test_more_signs_than_ways(self):
        line = [begin(1, 3, 2), pays([0, 1]), wants([1, 0])]
        self.assert_all(line, [HONEST, ENVIES, NOTHING, RESTS, MOSTTOLD, AGREE, COST], [
            [0, 1, 0], [0], [1, 0, 0, 1, 1, 1], [3, 1], [1, 0, 0, 1, 1, 1], [1], [0],
        ])

    def test_all_wants_alike(self):
        # Nobody has a reason to lie, nor to be honest.
        line = [begin(2, 2, 2), wants([5] * 4)]
        self.assert_all(line, [HONEST, ENVIES, RESTS, MOSTTOLD, BESTGIVER, BESTACTOR, AGREE, COST], [
            [1, 2, 10], [0], [10, 2], [2, 10, 0, 1, 0, 1], [1, 10, 0, 0, 0, 0], [2, 10, 0, 1, 0, 1], [1], [0],
        ])

    def test_a_plan_at_rest_for_one_of_them(self):
        line = [begin(2, 2, 2), wants([0, 1, 1, 0]), send([0, 1]), act([0, 1])]
        self.assert_all(line, [WORTH, REST, BETTER, act([1, 0]), WORTH, REST, BETTER, RESTS, BESTACTOR, BESTGIVER], [
            [2, 0, 2], [0], [2, 2], [0], [0, 2, 2], [0], [2, 2], [4, 1], [1, 1, 0, 0, 0, 0], [1, 1, 0, 0, 0, 0],
        ])


class FortyCalls(unittest.TestCase):
    def test_all_questions_many_times(self):
        source = random.Random(31)
        plain = at_random(source, (3, 3, 3), 3)
        line = set_all(plain)
        expected = [None] * len(line)
        asked = 0
        while len(line) + 5 <= 40:
            other = at_random(source, (3, 3, 3), 3)
            turn = len(line) % 3
            plain.weights[turn], plain.pays, plain.wants = other.weights[turn], other.pays, other.wants
            for call in (weight(turn, plain.weights[turn]), pays(plain.pays), wants(plain.wants)):
                line.append(call)
                expected.append(None)
            told = plain.questions()
            for step in range(min(5, 40 - len(line))):
                at = 3 + asked % 10
                line.append(QUESTIONS[at])
                expected.append(told[at])
                asked += 1
        self.assertEqual(len(line), 40)
        self.assertGreaterEqual(asked, 20)
        self.assertEqual([a if b is not None else None for a, b in zip(run(line), expected)], expected)

    def test_each_question_alone(self):
        for number, call in enumerate(QUESTIONS):
            plain = at_random(random.Random(32), (3, 3, 3), 2)
            line = set_all(plain) + [call] * 32
            self.assertEqual(len(line), 40)
            self.assertEqual(run(line)[8:], [plain.questions()[number]] * 32, call)

    def test_three_rounds(self):
        line = [begin(3, 3, 3)] + QUESTIONS * 3
        self.assertEqual(len(line), 40)
        self.assertEqual(run(line)[1:], Plain(3, 3, 3).questions() * 3)

    def test_two_rounds_after_all_is_set(self):
        plain = at_random(random.Random(33), (3, 3, 3), 9)
        self.assertEqual(run(set_all(plain) + QUESTIONS * 2)[8:], plain.questions() * 2)

    def test_twice_the_same(self):
        handed = set_all(at_random(random.Random(34), (3, 3, 3), 4)) + QUESTIONS * 2
        self.assertEqual(run(handed), run(handed))

