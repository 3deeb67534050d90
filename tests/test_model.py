"""Long lines of calls, against a second telling of the document that is written in another way."""

import itertools
import random
import unittest

from tests.helper import ask


class Model:
    """The document's words over a board of places, with every order tried."""

    def __init__(self):
        self.board = None

    def answer(self, call):
        name = call[0]
        if name != "begin" and self.board is None:
            return [-11]
        told = getattr(self, "call_" + name)(*call[1:])
        return told if isinstance(told, list) else [told]

    def call_begin(self, width, face, steps):
        ranges = [(width, 1, 6), (face, 5, 60), (len(steps), 1, 5)] + [(step, 0, 200) for step in steps]
        if any(not low <= value <= high for value, low, high in ranges):
            return -22
        self.board = {(r, c): None for r in range(len(steps)) for c in range(width)}
        self.width, self.face, self.steps = width, face, list(steps)
        self.tall, self.near, self.far = [], set(), set()
        return 0

    def place_of(self, p):
        return next((place for place, who in self.board.items() if who == p), None)

    def missing(self, *people):
        return any(p >= len(self.tall) for p in people)

    def who_hides(self, p):
        row, column = self.place_of(p)
        mine = self.steps[row] + self.tall[p]
        front = [(r, self.board[r, column]) for r in range(row) if self.board[r, column] is not None]
        return [q for r, q in front if self.steps[r] + self.tall[q] + self.face > mine]

    def call_person(self, height):
        if len(self.tall) == 20:
            return -28
        if height not in range(50, 251):
            return -22
        self.tall.append(height)
        return len(self.tall) - 1

    def call_put(self, p, r, c):
        if self.missing(p):
            return -2
        if (r, c) not in self.board:
            return -22
        if self.board[r, c] is not None:
            return -16
        if self.place_of(p):
            self.board[self.place_of(p)] = None
        self.board[r, c] = p
        return 0 if self.who_hides(p) else 1

    def call_off(self, p):
        if self.missing(p):
            return -2
        place = self.place_of(p)
        if place is None:
            return -6
        self.board[place] = None
        return list(place)

    def call_swap(self, p, q):
        if self.missing(p, q):
            return -2
        if p == q:
            return -22
        one, other = self.place_of(p), self.place_of(q)
        if one is None or other is None:
            return -6
        self.board[one], self.board[other] = q, p
        return 0

    def tell(self, p, q, mine, others):
        if self.missing(p, q):
            return -2
        if p == q:
            return -22
        pair = frozenset((p, q))
        if pair in mine:
            return -17
        if pair in others:
            return -16
        mine.add(pair)
        return len(mine)

    def call_wish(self, p, q):
        return self.tell(p, q, self.near, self.far)

    def call_apart(self, p, q):
        return self.tell(p, q, self.far, self.near)

    def call_forget(self, p, q):
        if self.missing(p, q):
            return -2
        if p == q:
            return -22
        pair = {frozenset((p, q))}
        if not pair & (self.near | self.far):
            return -6
        self.near -= pair
        self.far -= pair
        return 0

    def touching(self, directions):
        found = set()
        for (r, c), who in self.board.items():
            for down, along in directions:
                other = self.board.get((r + down, c + along))
                if who is not None and other is not None:
                    found.add(frozenset((who, other)))
        return found

    def call_met(self):
        near = len(self.near & self.touching([(0, 1)]))
        far = len(self.far - self.touching([(0, 1), (1, 0)]))
        return [near + far, len(self.near), near, len(self.far), far]

    def call_seen(self, p):
        if self.missing(p):
            return -2
        if self.place_of(p) is None:
            return -6
        return 0 if self.who_hides(p) else 1

    def call_hidden(self):
        found = sorted(p for p in self.board.values() if p is not None and self.who_hides(p))
        return [len(found)] + found

    def call_hides(self, p):
        if self.missing(p):
            return -2
        if self.place_of(p) is None:
            return -6
        return [len(self.who_hides(p))] + self.who_hides(p)

    def call_all(self):
        return int(all(self.place_of(p) is not None and not self.who_hides(p) for p in range(len(self.tall))))

    def call_column(self, c):
        if c >= self.width:
            return -22
        rows = [r for r in range(len(self.steps)) if self.board[r, c] is not None]
        now = [self.board[r, c] for r in rows]
        good = []
        for order in itertools.permutations(now):
            heads = [self.steps[r] + self.tall[p] for r, p in zip(rows, order)]
            if all(a + self.face <= b for a, b in itertools.combinations(heads, 2)):
                good.append((sum(a != b for a, b in zip(now, order)), list(order)))
        if not good:
            return -33
        moved, order = min(good)
        return [moved] + order


def random_call(source, rows, width, people):
    p = source.randrange(people + 1)
    q = source.randrange(people + 1)
    choices = [
        ("person", source.choice((49, 50, 60, 70, 80, 90, 100, 110, 120, 150, 250, 251))),
        ("put", p, source.randrange(rows + 1), source.randrange(width + 1)),
        ("off", p), ("swap", p, q), ("wish", p, q), ("apart", p, q), ("forget", p, q), ("seen", p), ("hidden",),
        ("hides", p), ("all",), ("met",), ("column", source.randrange(width + 1)),
    ]
    return source.choices(choices, (4, 20, 1, 6, 4, 4, 2, 3, 3, 3, 2, 5, 10))[0]


def random_line(source):
    rows = source.randint(1, 5)
    width = source.randint(1, 3)
    people = source.randint(1, 20)
    steps = [source.choice((0, 10, 20, 40, 60, 100, 200)) for row in range(rows)]
    if source.random() < 0.5:
        steps.sort()
    calls = [("begin", width, source.choice((5, 10, 10, 20, 60)), steps)]
    calls += [("person", source.randrange(50, 160, 10)) for p in range(people)]
    while len(calls) < 300:
        calls.append(random_call(source, rows, width, people))
    return calls


class Lines(unittest.TestCase):
    def test_lines_of_calls(self):
        for seed in range(150):
            calls = random_line(random.Random(seed))
            model = Model()
            for at, (call, answer) in enumerate(zip(calls, ask(calls))):
                self.assertEqual(answer, model.answer(call), f"seed {seed}, call {at}: {call}")

    def test_full_columns(self):
        """Every height order of five on steps that rise, are level, or fall."""
        for steps in ([0, 30, 60, 90, 120], [0, 0, 0, 0, 0], [60, 0, 60, 0, 60], [0, 100, 50, 200, 150]):
            for heights in itertools.permutations((80, 90, 100, 100, 140)):
                calls = [("begin", 1, 10, steps)] + [("person", height) for height in heights]
                calls += [("put", p, 4 - p, 0) for p in range(5)] + [("column", 0), ("hidden",)]
                model = Model()
                self.assertEqual(ask(calls), [model.answer(call) for call in calls])


if __name__ == "__main__":
    unittest.main()
