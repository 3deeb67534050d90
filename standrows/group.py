"""The group itself: where its people stand, who is seen, what is told of pairs, and orders of people."""

NEAR = 1
APART = 2


class Group:
    """People on rows of steps. Whoever changes it has asked first whether the change is allowed."""

    def __init__(self):
        self.begun = False
        self.width = 0
        self.face = 0
        self.steps = []
        self.heights = []
        # One spot a person, so that nobody can stand at two places: (row, column), or None.
        self.spots = []
        # One word a pair, so that no pair can be near and apart: NEAR or APART, by (lesser, greater).
        self.pairs = {}

    def begin(self, width, face, steps):
        self.begun = True
        self.width = width
        self.face = face
        self.steps = list(steps)
        self.heights = []
        self.spots = []
        self.pairs = {}

    def add_person(self, height):
        self.heights.append(height)
        self.spots.append(None)
        return len(self.heights) - 1

    def has_person(self, p):
        return p < len(self.heights)

    def has_row(self, row):
        return row < len(self.steps)

    def has_column(self, column):
        return column < self.width

    def is_placed(self, p):
        return self.spots[p] is not None

    def placed_people(self):
        return [p for p in range(len(self.spots)) if self.is_placed(p)]

    def place(self, p, row, column):
        self.spots[p] = (row, column)

    def take_off(self, p):
        self.spots[p] = None

    def change_places(self, p, q):
        spot = self.spots[p]
        self.spots[p] = self.spots[q]
        self.spots[q] = spot

    def person_at(self, row, column):
        for p in range(len(self.spots)):
            if self.spots[p] == (row, column):
                return p
        return None

    def column_people(self, column):
        """Who stands in this column, from the front."""
        standing = [self.person_at(row, column) for row in range(len(self.steps))]
        return [p for p in standing if p is not None]

    def row_people(self, row):
        """Who stands in this row, by columns."""
        standing = [self.person_at(row, column) for column in range(self.width)]
        return [p for p in standing if p is not None]

    def people_around(self, p):
        """Who stands beside, right before or right behind this person, who is placed; rising."""
        here = self.spots[p]
        return [other for other in self.placed_people() if are_touching(here, self.spots[other])]

    def head(self, p):
        return self.steps[self.spots[p][0]] + self.heights[p]

    def people_in_front(self, p):
        """Who stands in front of this person, who is placed, in their column; from the front."""
        spot = self.spots[p]
        return [other for other in self.column_people(spot[1]) if self.spots[other][0] < spot[0]]

    def hiders(self, p):
        """Who hides this person, who is placed, from the front."""
        head = self.head(p)
        return [other for other in self.people_in_front(p) if comes_too_high(self.head(other), self.face, head)]

    def is_seen(self, p):
        return self.is_placed(p) and len(self.hiders(p)) == 0

    def hidden_people(self):
        return [p for p in self.placed_people() if not self.is_seen(p)]

    def everybody_is_seen(self):
        return all([self.is_seen(p) for p in range(len(self.spots))])

    def told_of(self, p, q):
        return self.pairs.get(pair_of(p, q))

    def tell(self, p, q, word):
        self.pairs[pair_of(p, q)] = word

    def forget(self, p, q):
        self.pairs.pop(pair_of(p, q))

    def pairs_told(self, word):
        return [pair for pair in self.pairs if self.pairs[pair] == word]

    def pairs_met(self, word):
        return [pair for pair in self.pairs_told(word) if self.is_met(pair, word)]

    def is_met(self, pair, word):
        one = self.spots[pair[0]]
        other = self.spots[pair[1]]
        if one is None or other is None:
            return word == APART
        if word == NEAR:
            return are_beside(one, other)
        return not are_touching(one, other)

    def stand_so(self, standing, order):
        """Lets these people change their places among themselves, so that they stand in this order."""
        # All spots are read before the first is given anew: they belong to the same people.
        spots = [self.spots[p] for p in standing]
        for k in range(len(order)):
            self.spots[order[k]] = spots[k]

    def seen_order(self, standing):
        """The order in which all of a column's people would be seen, with fewest moved; None if there is none."""
        steps = [self.steps[self.spots[p][0]] for p in standing]
        orders = [order for order in orders_of(standing) if self.would_be_seen(order, steps)]
        return fewest_moved(standing, orders)

    def would_be_seen(self, order, steps):
        """Whether all would be seen who stand in this order, from the front, on these steps."""
        heads = [steps[k] + self.heights[order[k]] for k in range(len(order))]
        for back in range(len(heads)):
            for front in range(back):
                if comes_too_high(heads[front], self.face, heads[back]):
                    return False
        return True

    def is_hill(self, order):
        return rises_and_falls([self.heights[p] for p in order])

    def hill_order(self, standing):
        """The order in which a row's people would be a hill, with fewest moved. There always is one."""
        return fewest_moved(standing, [order for order in orders_of(standing) if self.is_hill(order)])

    def joints(self, standing):
        """Where the places of a row's people, by columns, lie beside each other: each k that joins k - 1."""
        spots = [self.spots[p] for p in standing]
        return [k for k in range(1, len(spots)) if are_beside(spots[k - 1], spots[k])]

    def near_beside(self, order, joints):
        """How many near pairs would stand beside each other in this order."""
        return len([k for k in joints if self.told_of(order[k - 1], order[k]) == NEAR])

    def near_order(self, standing):
        """The first order of a row's people that brings most near pairs beside each other."""
        joints = self.joints(standing)
        # Of those alike good max takes the first, as min does.
        return max(orders_of(standing), key=lambda order: self.near_beside(order, joints))

    def places(self):
        """Every place, by rows."""
        found = []
        for row in range(len(self.steps)):
            found.extend([(row, column) for column in range(self.width)])
        return found

    def free_places(self):
        return [place for place in self.places() if place not in self.spots]

    def good_place(self, p):
        """The first place, by rows, that is good for this person; None if there is none."""
        for place in self.places():
            is_open = place == self.spots[p] or place not in self.spots
            if is_open and self.would_be_good(p, place):
                return place
        return None

    def would_be_good(self, p, place):
        """Whether p would be seen at this place, and hide nobody there who is seen while p isn't placed."""
        head = self.steps[place[0]] + self.heights[p]
        for other in self.column_people(place[1]):
            if other == p:
                continue
            if self.spots[other][0] < place[0]:
                spoils = comes_too_high(self.head(other), self.face, head)
            else:
                spoils = comes_too_high(head, self.face, self.head(other)) and self.is_seen_without(other, p)
            if spoils:
                return False
        return True

    def is_seen_without(self, other, p):
        """Whether the other, who is placed, would be seen if p weren't placed."""
        return len([hider for hider in self.hiders(other) if hider != p]) == 0


def comes_too_high(front_head, face, back_head):
    return front_head + face > back_head


def pair_of(p, q):
    """The pair's one key, whichever of both is named first."""
    return (min(p, q), max(p, q))


def are_beside(one, other):
    return one[0] == other[0] and abs(one[1] - other[1]) == 1


def are_right_behind(one, other):
    """Whether one of two spots lies right behind the other, whichever it is."""
    return one[1] == other[1] and abs(one[0] - other[0]) == 1


def are_touching(one, other):
    return are_beside(one, other) or are_right_behind(one, other)


def rises_and_falls(heights):
    """Whether these never get lower up to somewhere, and never higher from there on."""
    falls = False
    for k in range(1, len(heights)):
        if heights[k] > heights[k - 1] and falls:
            return False
        if heights[k] < heights[k - 1]:
            falls = True
    return True


def orders_of(people):
    """Every order of these people, the first one first."""
    # Lesser numbers are tried first at each place, so the list needs no sorting afterwards.
    rising = sorted(people)
    orders = [[]]
    for place in range(len(rising)):
        orders = longer_by_one(orders, rising)
    return orders


def longer_by_one(orders, rising):
    longer = []
    for order in orders:
        for p in rising:
            if p not in order:
                longer.append(order + [p])
    return longer


def count_moved(standing, order):
    return len([k for k in range(len(order)) if standing[k] != order[k]])


def fewest_moved(standing, orders):
    """The first of the orders that move fewest of those who stand so now; None if there is no order."""
    # Of those alike good min takes the first, and the orders come with the first one first.
    return min(orders, key=lambda order: count_moved(standing, order), default=None)
