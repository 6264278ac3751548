"""The calls: each takes the table and a list of what is handed in, and answers a list."""

from twowants.honesty import envious_twos, honest_plan, nothing_plan
from twowants.plans import best_to_actor, most_to_actor, most_to_giver, plans_at_rest, rests_for_both
from twowants.plans import told_apart, worth_by, worths_by

BEGIN = 0
NO_SUCH_WAY = -2
NOT_BEGUN = -11
NOT_RIGHT = -22
CANNOT_BE = -33


def all_within(row, low, high):
    """Whether each number is from low to high."""
    return all([low <= number and number <= high for number in row])


def is_right(row, length, high):
    """Whether it's a list of this length of numbers from 0 to high."""
    return len(row) == length and all_within(row, 0, high)


def begin(table, row):
    """Set everything anew."""
    if not all_within(row, 1, 3):
        return [NOT_RIGHT]
    table.begin(row[0], row[1], row[2])
    return [0]


def set_weight(table, row):
    """Give a way its weight, and answer what it was."""
    way = row[0]
    if way >= table.ways:
        return [NO_SUCH_WAY]
    if not all_within([row[1]], 1, 9):
        return [NOT_RIGHT]
    before = table.weights[way]
    table.weights[way] = row[1]
    return [before]


def set_pays(table, row):
    """Set what who acts has for each way and act."""
    if not is_right(row, table.ways * table.acts, 9):
        return [NOT_RIGHT]
    table.pays = row
    return [0]


def set_wants(table, row):
    """Set what who gives signs has for each way and act."""
    if not is_right(row, table.ways * table.acts, 9):
        return [NOT_RIGHT]
    table.wants = row
    return [0]


def set_signs(table, row):
    """Set the plan's sign for each way."""
    if not is_right(row, table.ways, table.signs - 1):
        return [NOT_RIGHT]
    table.given = row
    return [0]


def set_acts(table, row):
    """Set the plan's act for each sign."""
    if not is_right(row, table.signs, table.acts - 1):
        return [NOT_RIGHT]
    table.done = row
    return [0]


def both_worths(table, plan):
    """What a plan is worth to who acts, then to who gives signs."""
    to_actor = worth_by(table, table.pays, plan[0], plan[1])
    to_giver = worth_by(table, table.wants, plan[0], plan[1])
    return [to_actor, to_giver]


def whole_plan(table, plan):
    """A plan as it is answered: both worths, its signs, its acts."""
    return both_worths(table, plan) + plan[0] + plan[1]


def first_with_most(found, counts):
    """The first of these plans whose count is the most."""
    return found[counts.index(max(counts))]


def tell_worth(table, row):
    """The plan's worth to who acts, to who gives signs, and all weights together."""
    return both_worths(table, (table.given, table.done)) + [sum(table.weights)]


def tell_rest(table, row):
    """1 if the plan is at rest for both, else 0."""
    return [1 if rests_for_both(table, table.given, table.done) else 0]


def tell_better(table, row):
    """The most by other signs alone to who gives them, by other acts alone to who acts."""
    return [most_to_giver(table, table.done), most_to_actor(table, table.given)]


def tell_rests(table, row):
    """How many plans are at rest for both, and the most that one of them tells apart."""
    found = plans_at_rest(table)
    return [len(found), max([told_apart(plan[0]) for plan in found])]


def tell_mosttold(table, row):
    """Of the plans at rest the first by which most are told apart."""
    found = plans_at_rest(table)
    return whole_plan(table, first_with_most(found, [told_apart(plan[0]) for plan in found]))


def tell_bestgiver(table, row):
    """Of the plans at rest the first that is worth most to who gives signs."""
    found = plans_at_rest(table)
    return whole_plan(table, first_with_most(found, worths_by(table, table.wants, found)))


def tell_bestactor(table, row):
    """Of the plans at rest the first that is worth most to who acts."""
    found = plans_at_rest(table)
    return whole_plan(table, first_with_most(found, worths_by(table, table.pays, found)))


def tell_nothing(table, row):
    """What telling nothing is worth to both, and its plan."""
    return whole_plan(table, nothing_plan(table))


def tell_honest(table, row):
    """Whether honesty is at rest for both, and what it's worth to both."""
    if table.signs < table.ways:
        return [CANNOT_BE]
    plan = honest_plan(table)
    at_rest = 1 if rests_for_both(table, plan[0], plan[1]) else 0
    return [at_rest] + both_worths(table, plan)


def tell_envies(table, row):
    """How many twos of ways there are of which the first envies the second, then these."""
    if table.signs < table.ways:
        return [CANNOT_BE]
    twos = envious_twos(table)
    told = [len(twos)]
    for two in twos:
        told.extend(two)
    return told


def tell_agree(table, row):
    """1 if one of the plans at rest is the best of them for both, else 0."""
    found = plans_at_rest(table)
    to_actor = worths_by(table, table.pays, found)
    to_giver = worths_by(table, table.wants, found)
    most = (max(to_actor), max(to_giver))
    return [1 if any([pair == most for pair in zip(to_actor, to_giver)]) else 0]


def tell_cost(table, row):
    """How much more the best of all plans is worth to who acts than the best at rest."""
    return [best_to_actor(table) - max(worths_by(table, table.pays, plans_at_rest(table)))]


def tell_state(table, row):
    """All that there is: how many, weights, pays, wants and the plan."""
    sizes = [table.ways, table.signs, table.acts]
    return sizes + table.weights + table.pays + table.wants + table.given + table.done


CALLS = {
    1: set_weight,
    2: set_pays,
    3: set_wants,
    4: set_signs,
    5: set_acts,
    6: tell_worth,
    7: tell_rest,
    8: tell_better,
    9: tell_rests,
    10: tell_mosttold,
    11: tell_bestgiver,
    12: tell_bestactor,
    13: tell_nothing,
    14: tell_honest,
    15: tell_envies,
    16: tell_agree,
    17: tell_cost,
    18: tell_state,
}


def answer(table, number, row):
    """What one call answers: a refusal is its number alone."""
    if number == BEGIN:
        return begin(table, row)
    if not table.begun:
        return [NOT_BEGUN]
    return CALLS[number](table, row)
