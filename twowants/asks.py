"""The calls: each takes the table and a list of what is handed in, and answers a list."""

from twowants.plans import most_to_actor, most_to_giver, plans_at_rest, rests_for_both, told_apart, worth_by

BEGIN = 0
NO_SUCH_WAY = -2
NOT_BEGUN = -11
NOT_RIGHT = -22


def all_within(row, low, high):
    """Whether each number is from low to high."""
    return all([low <= number and number <= high for number in row])


def is_right(row, length, high):
    """Whether it's a list of this length of numbers from 0 to high."""
    return len(row) == length and all_within(row, 0, high)


def begin(table, row):
    """Set everything anew."""
    if not all_within(row, 1, 3):
        return [NOT_RIGHT]
    table.begin(row[0], row[1], row[2])
    return [0]


def set_weight(table, row):
    """Give a way its weight, and answer what it was."""
    way = row[0]
    if way >= table.ways:
        return [NO_SUCH_WAY]
    if not all_within([row[1]], 1, 9):
        return [NOT_RIGHT]
    before = table.weights[way]
    table.weights[way] = row[1]
    return [before]


def set_pays(table, row):
    """Set what who acts has for each way and act."""
    if not is_right(row, table.ways * table.acts, 9):
        return [NOT_RIGHT]
    table.pays = row
    return [0]


def set_wants(table, row):
    """Set what who gives signs has for each way and act."""
    if not is_right(row, table.ways * table.acts, 9):
        return [NOT_RIGHT]
    table.wants = row
    return [0]


def set_signs(table, row):
    """Set the plan's sign for each way."""
    if not is_right(row, table.ways, table.signs - 1):
        return [NOT_RIGHT]
    table.given = row
    return [0]


def set_acts(table, row):
    """Set the plan's act for each sign."""
    if not is_right(row, table.signs, table.acts - 1):
        return [NOT_RIGHT]
    table.done = row
    return [0]


def tell_worth(table, row):
    """The plan's worth to who acts, to who gives signs, and all weights together."""
    to_actor = worth_by(table, table.pays, table.given, table.done)
    to_giver = worth_by(table, table.wants, table.given, table.done)
    return [to_actor, to_giver, sum(table.weights)]


def tell_rest(table, row):
    """1 if the plan is at rest for both, else 0."""
    return [1 if rests_for_both(table, table.given, table.done) else 0]


def tell_better(table, row):
    """The most by other signs alone to who gives them, by other acts alone to who acts."""
    return [most_to_giver(table, table.done), most_to_actor(table, table.given)]


def tell_rests(table, row):
    """How many plans are at rest for both, and the most that one of them tells apart."""
    # There is always one: to tell nothing is at rest for both.
    found = plans_at_rest(table)
    return [len(found), max([told_apart(plan[0]) for plan in found])]


CALLS = {
    1: set_weight,
    2: set_pays,
    3: set_wants,
    4: set_signs,
    5: set_acts,
    6: tell_worth,
    7: tell_rest,
    8: tell_better,
    9: tell_rests,
}


def answer(table, number, row):
    """What one call answers: a refusal is its number alone."""
    if number == BEGIN:
        return begin(table, row)
    if not table.begun:
        return [NOT_BEGUN]
    return CALLS[number](table, row)
