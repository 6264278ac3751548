"""The plan that tells nothing, the honest plan, and which way envies which."""

from twowants.plans import weighted, worth_of_act


def first_best_act(table, given, sign):
    """The first act for this sign that is worth most to who acts."""
    worths = [worth_of_act(table, given, sign, act) for act in range(table.acts)]
    return worths.index(max(worths))


def nothing_plan(table):
    """Sign 0 for each way, and one and the same act for all signs."""
    given = [0] * table.ways
    return (given, [first_best_act(table, given, 0)] * table.signs)


def honest_plan(table):
    """Sign s for way s, and its best act; there must be as many signs as ways, at least."""
    given = list(range(table.ways))
    # For a sign that isn't given all acts are worth 0, so the first of them, act 0, is taken.
    return (given, [first_best_act(table, given, sign) for sign in range(table.signs)])


def envies(table, done, way, other):
    """Whether who gives signs has more for this way by the other way's act than by its own."""
    return weighted(table, table.wants, way, done[other]) > weighted(table, table.wants, way, done[way])


def envious_twos(table):
    """All twos of ways of which the first envies the second, in order."""
    # By honesty a way's sign has the way's own number, so done is read by ways.
    done = honest_plan(table)[1]
    twos = []
    for way in range(table.ways):
        for other in range(table.ways):
            if envies(table, done, way, other):
                twos.append((way, other))
    return twos
