"""The group itself: where its people stand, who is seen, what is told of pairs, and orders of people."""

NEAR = 1
APART = 2


class Group:
    """People on rows of steps. Whoever changes it has asked first whether the change is allowed."""

    def __init__(self):
        self.begun = False
        self.width = 0
        self.face = 0
        self.steps = []
        self.heights = []
        # One spot a person, so that nobody can stand at two places: (row, column), or None.
        self.spots = []
        # One word a pair, so that no pair can be near and apart: NEAR or APART, by (lesser, greater).
        self.pairs = {}

    def begin(self, width, face, steps):
        self.begun = True
        self.width = width
        self.face = face
        self.steps = list(steps)
        self.heights = []
        self.spots = []
        self.pairs = {}

    def add_person(self, height):
        self.heights.append(height)
        self.spots.append(None)
        return len(self.heights) - 1

    def has_person(self, p):
        return p < len(self.heights)

    def has_row(self, row):
        return row < len(self.steps)

    def has_column(self, column):
        return column < self.width

    def is_placed(self, p):
        return self.spots[p] is not None

    def place(self, p, row, column):
        self.spots[p] = (row, column)

    def take_off(self, p):
        self.spots[p] = None

    def change_places(self, p, q):
        spot = self.spots[p]
        self.spots[p] = self.spots[q]
        self.spots[q] = spot

    def person_at(self, row, column):
        for p in range(len(self.spots)):
            if self.spots[p] == (row, column):
                return p
        return None

    def column_people(self, column):
        """Who stands in this column, from the front."""
        standing = [self.person_at(row, column) for row in range(len(self.steps))]
        return [p for p in standing if p is not None]

    def head(self, p):
        return self.steps[self.spots[p][0]] + self.heights[p]

    def hiders(self, p):
        """Who hides this person, who is placed, from the front."""
        row = self.spots[p][0]
        column = self.spots[p][1]
        head = self.head(p)
        found = []
        for other in self.column_people(column):
            if self.spots[other][0] < row and comes_too_high(self.head(other), self.face, head):
                found.append(other)
        return found

    def is_seen(self, p):
        return self.is_placed(p) and len(self.hiders(p)) == 0

    def hidden_people(self):
        return [p for p in range(len(self.spots)) if self.is_placed(p) and not self.is_seen(p)]

    def everybody_is_seen(self):
        return all([self.is_seen(p) for p in range(len(self.spots))])

    def told_of(self, p, q):
        return self.pairs.get(pair_of(p, q))

    def tell(self, p, q, word):
        self.pairs[pair_of(p, q)] = word

    def forget(self, p, q):
        self.pairs.pop(pair_of(p, q))

    def pairs_told(self, word):
        return [pair for pair in self.pairs if self.pairs[pair] == word]

    def pairs_met(self, word):
        return [pair for pair in self.pairs_told(word) if self.is_met(pair, word)]

    def is_met(self, pair, word):
        one = self.spots[pair[0]]
        other = self.spots[pair[1]]
        if one is None or other is None:
            return word == APART
        if word == NEAR:
            return are_beside(one, other)
        return not are_beside(one, other) and not are_right_behind(one, other)

    def seen_orders(self, standing):
        """The orders of a column's people in which all of them would be seen, the first one first."""
        steps = [self.steps[self.spots[p][0]] for p in standing]
        return [order for order in orders_of(standing) if self.would_be_seen(order, steps)]

    def would_be_seen(self, order, steps):
        """Whether all would be seen who stand in this order, from the front, on these steps."""
        heads = [steps[k] + self.heights[order[k]] for k in range(len(order))]
        for back in range(len(heads)):
            for front in range(back):
                if comes_too_high(heads[front], self.face, heads[back]):
                    return False
        return True


def comes_too_high(front_head, face, back_head):
    return front_head + face > back_head


def pair_of(p, q):
    """The pair's one key, whichever of both is named first."""
    return (min(p, q), max(p, q))


def are_beside(one, other):
    return one[0] == other[0] and abs(one[1] - other[1]) == 1


def are_right_behind(one, other):
    """Whether one of two spots lies right behind the other, whichever it is."""
    return one[1] == other[1] and abs(one[0] - other[0]) == 1


def orders_of(people):
    """Every order of these people, the first one first."""
    # Lesser numbers are tried first at each place, so the list needs no sorting afterwards.
    rising = sorted(people)
    orders = [[]]
    for place in range(len(rising)):
        orders = longer_by_one(orders, rising)
    return orders


def longer_by_one(orders, rising):
    longer = []
    for order in orders:
        for p in rising:
            if p not in order:
                longer.append(order + [p])
    return longer


def count_moved(standing, order):
    return len([k for k in range(len(order)) if standing[k] != order[k]])


def fewest_moved(standing, orders):
    """The first of the orders that move fewest of those who stand so now; None if there is no order."""
    best = None
    for order in orders:
        # Only a better one takes its place: of those alike good the first stays.
        if best is None or count_moved(standing, order) < count_moved(standing, best):
            best = order
    return best
