"""Plans: given is a sign for each way it may be, done an act for each sign."""


def weighted(table, numbers, way, act):
    """What an act brings for a way by the pays or by the wants, times its weight."""
    return table.weights[way] * numbers[way * table.acts + act]


def worth_by(table, numbers, given, done):
    """What a plan is worth by the pays or by the wants."""
    return sum([weighted(table, numbers, way, done[given[way]]) for way in range(table.ways)])


def most_to_giver(table, done):
    """The most that a plan with these acts is worth to who gives signs, by any signs."""
    total = 0
    for way in range(table.ways):
        # A way's sign changes nothing for another way, so each takes its own best.
        total = total + max([weighted(table, table.wants, way, act) for act in done])
    return total


def worth_of_act(table, given, sign, act):
    """What an act for this sign brings to who acts, of the ways that have this sign."""
    ways = [way for way in range(table.ways) if given[way] == sign]
    return sum([weighted(table, table.pays, way, act) for way in ways])


def most_to_actor(table, given):
    """The most that a plan with these signs is worth to who acts, by any acts."""
    total = 0
    for sign in range(table.signs):
        # A sign's act changes nothing for another sign, so each takes its own best.
        total = total + max([worth_of_act(table, given, sign, act) for act in range(table.acts)])
    return total


def rests_for_giver(table, given, done):
    """Whether no other signs alone are worth more to who gives them."""
    return worth_by(table, table.wants, given, done) == most_to_giver(table, done)


def rests_for_actor(table, given, done):
    """Whether no other acts alone are worth more to who acts."""
    return worth_by(table, table.pays, given, done) == most_to_actor(table, given)


def rests_for_both(table, given, done):
    """Whether a plan is at rest for both."""
    return rests_for_giver(table, given, done) and rests_for_actor(table, given, done)


def all_rows(length, below):
    """All lists of this length of numbers from 0, below this one, in order."""
    rows = [[]]
    for place in range(length):
        longer = []
        for row in rows:
            for number in range(below):
                longer.append(row + [number])
        rows = longer
    return rows


def all_plans(table):
    """All plans in order, each as its signs and its acts."""
    found = []
    for given in all_rows(table.ways, table.signs):
        for done in all_rows(table.signs, table.acts):
            found.append((given, done))
    return found


def plans_at_rest(table):
    """All plans at rest for both, in order: never none, as to tell nothing is at rest for both."""
    return [plan for plan in all_plans(table) if rests_for_both(table, plan[0], plan[1])]


def worths_by(table, numbers, found):
    """What each of these plans is worth by the pays or by the wants."""
    return [worth_by(table, numbers, plan[0], plan[1]) for plan in found]


def best_to_actor(table):
    """What the best of all plans is worth to who acts."""
    return max([most_to_actor(table, given) for given in all_rows(table.ways, table.signs)])


def told_apart(given):
    """How many different signs are given."""
    return len(set(given))
