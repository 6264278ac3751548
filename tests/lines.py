"""Lines of calls as the tests write them: a call is a list, a line a list of calls; and Plain to hold them against."""

import itertools

from twowants.signs import answers

# Past 3 (sizes), 9 (weights and pays) and every number of ways, signs or acts.
HUGE = 4294967295

WORTH = [6]
REST = [7]
BETTER = [8]
RESTS = [9]
MOSTTOLD = [10]
BESTGIVER = [11]
BESTACTOR = [12]
NOTHING = [13]
HONEST = [14]
ENVIES = [15]
AGREE = [16]
COST = [17]
STATE = [18]
QUESTIONS = [
    WORTH, REST, BETTER, RESTS, MOSTTOLD, BESTGIVER, BESTACTOR, NOTHING, HONEST, ENVIES, AGREE, COST, STATE,
]
SIZES = [(n, m, k) for n in (1, 2, 3) for m in (1, 2, 3) for k in (1, 2, 3)]


def begin(n, m, k):
    return [0, n, m, k]


def weight(s, w):
    return [1, s, w]


def pays(l):
    return [2, len(l)] + l


def wants(l):
    return [3, len(l)] + l


def send(l):
    return [4, len(l)] + l


def act(l):
    return [5, len(l)] + l


def run(line):
    """What each call of the line answers, as a list of lists."""
    if len(line) > 40:
        raise AssertionError("a line has at most 40 calls, not %d" % len(line))
    handed = [number for call in line for number in call]
    before = list(handed)
    told = answers(handed)
    if handed != before:
        raise AssertionError("what was handed in is changed")
    if type(told) is not list or any(type(number) is not int for number in told):
        raise AssertionError("not a list of whole numbers: %r" % (told,))
    return apart(told, len(line))


def apart(told, count):
    found = []
    at = 0
    while at < len(told):
        found.append(told[at + 1:at + 1 + told[at]])
        at += 1 + told[at]
    if at != len(told) or len(found) != count:
        raise AssertionError("%r doesn't answer %d calls" % (told, count))
    return found


def last(line):
    """What the last call of the line answers."""
    return run(line)[-1]


def cell(line, m, s, a):
    """The number paid, and the one wanted, for way s and act a after the line."""
    told = run(line + [act([a] * m), weight(s, 1), WORTH, weight(s, 2), WORTH])
    return told[-1][0] - told[-3][0], told[-1][1] - told[-3][1]


def has_sign(line, n, m, k, s, sign):
    """Whether the plan's sign for way s is this one after the line (k is 2 at least)."""
    only_here = [1 if at == s * k + 1 else 0 for at in range(n * k)]
    told = last(line + [wants(only_here), act([1 if j == sign else 0 for j in range(m)]), WORTH])
    return told[1] > 0


def has_act(line, n, k, sign, a):
    """Whether the plan's act for this sign is a after the line."""
    only_this = [1 if at % k == a else 0 for at in range(n * k)]
    return last(line + [send([sign] * n), pays(only_this), WORTH])[0] > 0


def seen(line, n, m, k):
    """All that an object of these sizes has after the line, found out by more calls."""
    cells = [cell(line, m, s, a) for s in range(n) for a in range(k)]
    # With one act only all signs come to the same: which are given can't be seen.
    signs = [[j for j in range(m) if has_sign(line, n, m, k, s, j)] for s in range(n)] if k > 1 else []
    return {
        "weights": [last(line + [weight(s, 1)]) for s in range(n)],
        "no more ways": last(line + [weight(n, 1)]),
        "all weights": last(line + [WORTH])[2],
        "pays": [pair[0] for pair in cells],
        "wants": [pair[1] for pair in cells],
        "signs": signs,
        "acts": [[a for a in range(k) if has_act(line, n, k, j, a)] for j in range(m)],
    }


class Plain:
    """An object by the document's words alone: all plans are tried out."""

    def __init__(self, n, m, k):
        plain = [1 if s == a else 0 for s in range(n) for a in range(k)]
        self.n, self.m, self.k = n, m, k
        self.weights, self.pays, self.wants = [1] * n, plain, plain
        self.signs, self.acts = (0,) * n, (0,) * m

    def all_signs(self):
        return list(itertools.product(range(self.m), repeat=self.n))

    def all_acts(self):
        return list(itertools.product(range(self.k), repeat=self.m))

    def all_plans(self):
        return list(itertools.product(self.all_signs(), self.all_acts()))

    def worth(self, numbers, signs, acts):
        return sum(self.weights[s] * numbers[s * self.k + acts[signs[s]]] for s in range(self.n))

    def worths(self, plan):
        return [self.worth(self.pays, *plan), self.worth(self.wants, *plan)]

    def whole(self, plan):
        return self.worths(plan) + list(plan[0]) + list(plan[1])

    def at_rest(self):
        """All plans at rest for both, in order."""
        plans = self.all_plans()
        to_giver = {plan: self.worth(self.wants, *plan) for plan in plans}
        to_actor = {plan: self.worth(self.pays, *plan) for plan in plans}
        return [
            (signs, acts) for signs, acts in plans
            if not any(to_giver[other, acts] > to_giver[signs, acts] for other in self.all_signs())
            and not any(to_actor[signs, other] > to_actor[signs, acts] for other in self.all_acts())
        ]

    def rests(self):
        found = self.at_rest()
        return [len(found), max(len(set(signs)) for signs, acts in found)]

    def told(self):
        """What worth, rest and better answer."""
        to_actor, to_giver = self.worths((self.signs, self.acts))
        by_signs = max(self.worth(self.wants, signs, self.acts) for signs in self.all_signs())
        by_acts = max(self.worth(self.pays, self.signs, acts) for acts in self.all_acts())
        rest = 1 if by_signs <= to_giver and by_acts <= to_actor else 0
        return [[to_actor, to_giver, sum(self.weights)], [rest], [by_signs, by_acts]]

    def first_most(self, plans, measure):
        """The first plan, in the document's order, than which no other one has more by this measure."""
        most = max(measure(plan) for plan in plans)
        return min(plan for plan in plans if measure(plan) == most)

    def best(self):
        """What mosttold, bestgiver and bestactor answer."""
        found = self.at_rest()
        apart_by = self.first_most(found, lambda plan: len(set(plan[0])))
        for_giver = self.first_most(found, lambda plan: self.worths(plan)[1])
        for_actor = self.first_most(found, lambda plan: self.worths(plan)[0])
        return [self.whole(plan) for plan in (apart_by, for_giver, for_actor)]

    def nothing_plan(self):
        plans = [((0,) * self.n, (a,) * self.m) for a in range(self.k)]
        return self.first_most(plans, lambda plan: self.worths(plan)[0])

    def honest_plan(self):
        # Of all acts that are worth most, the first in order have the first act for each sign, and 0 if it isn't given.
        signs = tuple(range(self.n))
        return self.first_most([(signs, acts) for acts in self.all_acts()], lambda plan: self.worths(plan)[0])

    def honest(self):
        """What honest and envies answer."""
        if self.m < self.n:
            return [[-33], [-33]]
        plan = self.honest_plan()
        rows = [self.wants[s * self.k:(s + 1) * self.k] for s in range(self.n)]
        twos = [
            [s, t] for s in range(self.n) for t in range(self.n) if rows[s][plan[1][t]] > rows[s][plan[1][s]]
        ]
        rest = 1 if plan in self.at_rest() else 0
        return [[rest] + self.worths(plan), [len(twos)] + sum(twos, [])]

    def agree(self):
        found = [self.worths(plan) for plan in self.at_rest()]
        return 1 if any(all(a >= b and c >= d for b, d in found) for a, c in found) else 0

    def cost(self):
        best = max(self.worths(plan)[0] for plan in self.all_plans())
        return best - max(self.worths(plan)[0] for plan in self.at_rest())

    def state(self):
        sizes = [self.n, self.m, self.k]
        return sizes + self.weights + self.pays + self.wants + list(self.signs) + list(self.acts)

    def questions(self):
        """What all questions answer, in order."""
        return (
            self.told() + [self.rests()] + self.best() + [self.whole(self.nothing_plan())]
            + self.honest() + [[self.agree()], [self.cost()], self.state()]
        )


def set_all(plain):
    """The calls that bring a new object to where the plain one is."""
    line = [begin(plain.n, plain.m, plain.k)]
    line += [weight(s, plain.weights[s]) for s in range(plain.n)]
    return line + [pays(plain.pays), wants(plain.wants), send(list(plain.signs)), act(list(plain.acts))]


def at_random(source, sizes, most):
    """A plain object with numbers up to this one, few enough that many are alike."""
    plain = Plain(*sizes)
    n, m, k = sizes
    plain.weights = [source.randint(1, 9) for s in range(n)]
    plain.pays = [source.randint(0, most) for at in range(n * k)]
    plain.wants = [source.randint(0, most) for at in range(n * k)]
    plain.signs = tuple(source.randrange(m) for s in range(n))
    plain.acts = tuple(source.randrange(k) for j in range(m))
    return plain
