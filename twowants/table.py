"""What an object keeps from call to call: weights, pays, wants and the plan."""


def plain_pays(ways, acts):
    """1 for way s and act s, else 0: way by way, of each way act by act."""
    numbers = []
    for way in range(ways):
        for act in range(acts):
            numbers.append(1 if way == act else 0)
    return numbers


class Table:
    def __init__(self):
        # Before a begin that answers 0 there is nothing.
        self.begun = False
        self.ways = 0
        self.signs = 0
        self.acts = 0
        self.weights = []
        self.pays = []
        self.wants = []
        self.given = []
        self.done = []

    def begin(self, ways, signs, acts):
        """Set everything anew for so many ways, signs and acts."""
        self.begun = True
        self.ways = ways
        self.signs = signs
        self.acts = acts
        self.weights = [1] * ways
        # Two lists, as pays and wants are changed each without the other.
        self.pays = plain_pays(ways, acts)
        self.wants = plain_pays(ways, acts)
        self.given = [0] * ways
        self.done = [0] * signs
