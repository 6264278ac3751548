"""Lines of calls as the tests write them: a call is a list, a line a list of calls."""

from twowants.signs import answers

# Past 3 (sizes), 9 (weights and pays) and every number of ways, signs or acts.
HUGE = 4294967295

WORTH = [6]
REST = [7]
BETTER = [8]
RESTS = [9]
SIZES = [(n, m, k) for n in (1, 2, 3) for m in (1, 2, 3) for k in (1, 2, 3)]


def begin(n, m, k):
    return [0, n, m, k]


def weight(s, w):
    return [1, s, w]


def pays(l):
    return [2, len(l)] + l


def wants(l):
    return [3, len(l)] + l


def send(l):
    return [4, len(l)] + l


def act(l):
    return [5, len(l)] + l


def run(line):
    """What each call of the line answers, as a list of lists."""
    handed = [number for call in line for number in call]
    before = list(handed)
    told = answers(handed)
    if handed != before:
        raise AssertionError("what was handed in is changed")
    if type(told) is not list or any(type(number) is not int for number in told):
        raise AssertionError("not a list of whole numbers: %r" % (told,))
    return apart(told, len(line))


def apart(told, count):
    found = []
    at = 0
    while at < len(told):
        found.append(told[at + 1:at + 1 + told[at]])
        at += 1 + told[at]
    if at != len(told) or len(found) != count:
        raise AssertionError("%r doesn't answer %d calls" % (told, count))
    return found


def last(line):
    """What the last call of the line answers."""
    return run(line)[-1]


def cell(line, m, s, a):
    """The number paid, and the one wanted, for way s and act a after the line."""
    told = run(line + [act([a] * m), weight(s, 1), WORTH, weight(s, 2), WORTH])
    return told[-1][0] - told[-3][0], told[-1][1] - told[-3][1]


def has_sign(line, n, m, k, s, sign):
    """Whether the plan's sign for way s is this one after the line (k is 2 at least)."""
    only_here = [1 if at == s * k + 1 else 0 for at in range(n * k)]
    told = last(line + [wants(only_here), act([1 if j == sign else 0 for j in range(m)]), WORTH])
    return told[1] > 0


def has_act(line, n, k, sign, a):
    """Whether the plan's act for this sign is a after the line."""
    only_this = [1 if at % k == a else 0 for at in range(n * k)]
    return last(line + [send([sign] * n), pays(only_this), WORTH])[0] > 0


def seen(line, n, m, k):
    """All that an object of these sizes has after the line, found out by more calls."""
    cells = [cell(line, m, s, a) for s in range(n) for a in range(k)]
    # With one act only all signs come to the same: which are given can't be seen.
    signs = [[j for j in range(m) if has_sign(line, n, m, k, s, j)] for s in range(n)] if k > 1 else []
    return {
        "weights": [last(line + [weight(s, 1)]) for s in range(n)],
        "no more ways": last(line + [weight(n, 1)]),
        "all weights": last(line + [WORTH])[2],
        "pays": [pair[0] for pair in cells],
        "wants": [pair[1] for pair in cells],
        "signs": signs,
        "acts": [[a for a in range(k) if has_act(line, n, k, j, a)] for j in range(m)],
    }
