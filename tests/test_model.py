"""Long lines of calls, against a second telling of the document that is written in another way."""

import collections
import copy
import functools
import itertools
import random
import unittest

from tests.helper import NAMES, ask

# The refusals of each call, as its point names them; before a begin each but begin answers -11 besides.
REFUSALS = {
    "begin": (-22,), "person": (-28, -22), "put": (-2, -22, -16), "off": (-2, -6), "swap": (-2, -22, -6),
    "wish": (-2, -22, -17, -16), "apart": (-2, -22, -17, -16), "forget": (-2, -22, -6), "seen": (-2, -6),
    "hidden": (), "hides": (-2, -6), "all": (), "met": (), "column": (-22, -33), "mend": (-22, -33), "row": (-22,),
    "hill": (-22,), "shape": (-22,), "form": (-22,), "please": (-22,), "seat": (-22,), "beside": (-2, -6),
    "spare": (-2, -6, -33), "free": (), "good": (-2, -33), "look": (-2,), "sums": (), "state": (),
}


def is_hill(line):
    """Nobody has somebody taller on both sides."""
    return all(min(max(line[:k]), max(line[k + 1:])) <= line[k] for k in range(1, len(line) - 1))


@functools.lru_cache(None)
def best_hill(now, tall):
    """Of every order that is a hill the one with fewest moved, then the least; tall goes with now."""
    height = dict(zip(now, tall))
    hills = [order for order in itertools.permutations(now) if is_hill([height[p] for p in order])]
    return min((sum(a != b for a, b in zip(now, order)), order) for order in hills)


@functools.lru_cache(None)
def best_company(now, columns, wishes):
    """Of every order the one with most of these wishes beside each other, then the least."""
    ranked = []
    for order in itertools.permutations(now):
        where = dict(zip(order, columns))
        ranked.append((-sum(abs(where[p] - where[q]) == 1 for p, q in wishes), order))
    return min(ranked)


class Model:
    """The document's words over a board of places, with every order tried."""

    def __init__(self):
        self.board = None

    def answer(self, call):
        name = call[0]
        if name != "begin" and self.board is None:
            return [-11]
        told = getattr(self, "call_" + name)(*call[1:])
        return told if isinstance(told, list) else [told]

    def call_begin(self, width, face, steps):
        ranges = [(width, 1, 6), (face, 5, 60), (len(steps), 1, 5)] + [(step, 0, 200) for step in steps]
        if any(not low <= value <= high for value, low, high in ranges):
            return -22
        self.board = {(r, c): None for r in range(len(steps)) for c in range(width)}
        self.width, self.face, self.steps = width, face, list(steps)
        self.tall, self.near, self.far = [], set(), set()
        return 0

    def place_of(self, p):
        return next((place for place, who in self.board.items() if who == p), None)

    def missing(self, *people):
        return any(p >= len(self.tall) for p in people)

    def who_hides(self, p):
        row, column = self.place_of(p)
        mine = self.steps[row] + self.tall[p]
        front = [(r, self.board[r, column]) for r in range(row) if self.board[r, column] is not None]
        return [q for r, q in front if self.steps[r] + self.tall[q] + self.face > mine]

    def call_person(self, height):
        if len(self.tall) == 20:
            return -28
        if height not in range(50, 251):
            return -22
        self.tall.append(height)
        return len(self.tall) - 1

    def call_put(self, p, r, c):
        if self.missing(p):
            return -2
        if (r, c) not in self.board:
            return -22
        if self.board[r, c] is not None:
            return -16
        if self.place_of(p):
            self.board[self.place_of(p)] = None
        self.board[r, c] = p
        return 0 if self.who_hides(p) else 1

    def call_off(self, p):
        if self.missing(p):
            return -2
        place = self.place_of(p)
        if place is None:
            return -6
        self.board[place] = None
        return list(place)

    def call_swap(self, p, q):
        if self.missing(p, q):
            return -2
        if p == q:
            return -22
        one, other = self.place_of(p), self.place_of(q)
        if one is None or other is None:
            return -6
        self.board[one], self.board[other] = q, p
        return 0

    def tell(self, p, q, mine, others):
        if self.missing(p, q):
            return -2
        if p == q:
            return -22
        pair = frozenset((p, q))
        if pair in mine:
            return -17
        if pair in others:
            return -16
        mine.add(pair)
        return len(mine)

    def call_wish(self, p, q):
        return self.tell(p, q, self.near, self.far)

    def call_apart(self, p, q):
        return self.tell(p, q, self.far, self.near)

    def call_forget(self, p, q):
        if self.missing(p, q):
            return -2
        if p == q:
            return -22
        pair = {frozenset((p, q))}
        if not pair & (self.near | self.far):
            return -6
        self.near -= pair
        self.far -= pair
        return 0

    def touching(self, directions):
        found = set()
        for (r, c), who in self.board.items():
            for down, along in directions:
                other = self.board.get((r + down, c + along))
                if who is not None and other is not None:
                    found.add(frozenset((who, other)))
        return found

    def call_met(self):
        near = len(self.near & self.touching([(0, 1)]))
        far = len(self.far - self.touching([(0, 1), (1, 0)]))
        return [near + far, len(self.near), near, len(self.far), far]

    def call_seen(self, p):
        if self.missing(p):
            return -2
        if self.place_of(p) is None:
            return -6
        return 0 if self.who_hides(p) else 1

    def call_hidden(self):
        found = sorted(p for p in self.board.values() if p is not None and self.who_hides(p))
        return [len(found)] + found

    def call_hides(self, p):
        if self.missing(p):
            return -2
        if self.place_of(p) is None:
            return -6
        return [len(self.who_hides(p))] + self.who_hides(p)

    def call_all(self):
        return int(all(self.place_of(p) is not None and not self.who_hides(p) for p in range(len(self.tall))))

    def call_column(self, c):
        if c >= self.width:
            return -22
        rows = [r for r in range(len(self.steps)) if self.board[r, c] is not None]
        now = [self.board[r, c] for r in rows]
        good = []
        for order in itertools.permutations(now):
            heads = [self.steps[r] + self.tall[p] for r, p in zip(rows, order)]
            if all(a + self.face <= b for a, b in itertools.combinations(heads, 2)):
                good.append((sum(a != b for a, b in zip(now, order)), list(order)))
        if not good:
            return -33
        moved, order = min(good)
        return [moved] + order

    def call_mend(self, c):
        told = self.call_column(c)
        if told in (-22, -33):
            return told
        rows = [r for r in range(len(self.steps)) if self.board[r, c] is not None]
        self.board.update({(r, c): p for r, p in zip(rows, told[1:])})
        return told[0]

    def line(self, r):
        """The row's taken columns, and who stands there."""
        taken = [c for c in range(self.width) if self.board[r, c] is not None]
        return tuple(taken), tuple(self.board[r, c] for c in taken)

    def has_row(self, r):
        return (r, 0) in self.board

    def call_row(self, r):
        if not self.has_row(r):
            return -22
        shown = [-1 if self.board[r, c] is None else self.board[r, c] for c in range(self.width)]
        return [self.width - shown.count(-1)] + [p + 1 for p in shown]

    def call_hill(self, r):
        return int(is_hill([self.tall[p] for p in self.line(r)[1]])) if self.has_row(r) else -22

    def call_shape(self, r):
        if not self.has_row(r):
            return -22
        now = self.line(r)[1]
        moved, order = best_hill(now, tuple(self.tall[p] for p in now))
        return [moved] + list(order)

    def call_form(self, r):
        told = self.call_shape(r)
        if told == -22:
            return told
        self.board.update({(r, c): p for c, p in zip(self.line(r)[0], told[1:])})
        return told[0]

    def call_please(self, r):
        if not self.has_row(r):
            return -22
        columns, now = self.line(r)
        wishes = tuple(sorted(tuple(sorted(pair)) for pair in self.near if pair <= set(now)))
        count, order = best_company(now, columns, wishes)
        return [-count] + list(order)

    def call_seat(self, r):
        told = self.call_please(r)
        if told == -22:
            return told
        before = dict(self.board)
        self.board.update({(r, c): p for c, p in zip(self.line(r)[0], told[1:])})
        return [told[0], sum(before[place] != self.board[place] for place in before)]

    def call_beside(self, p):
        if self.missing(p):
            return -2
        if self.place_of(p) is None:
            return -6
        pairs = [pair for pair in self.touching([(0, 1), (1, 0)]) if p in pair]
        others = sorted(sum(pair) - p for pair in pairs)
        return [len(others)] + others

    def call_spare(self, p):
        if self.missing(p):
            return -2
        if self.place_of(p) is None:
            return -6
        row, column = self.place_of(p)
        heads = [self.steps[r] + self.tall[self.board[r, column]] for r in range(row)
                 if self.board[r, column] is not None]
        if not heads:
            return -33
        mine = self.steps[row] + self.tall[p]
        needed = sorted(heads)[-1] + self.face
        return [mine - needed, 0] if mine > needed else [0, needed - mine]

    def call_free(self):
        places = sorted(place for place, who in self.board.items() if who is None)
        return [len(places)] + [number for place in places for number in place]

    def seen_people(self):
        return {p for p in self.board.values() if p is not None and not self.who_hides(p)}

    def call_good(self, p):
        if self.missing(p):
            return -2
        without = copy.deepcopy(self)
        without.call_off(p)
        seen = without.seen_people()
        for place in sorted(without.board):
            if without.board[place] is None:
                without.board[place] = p
                if seen | {p} <= without.seen_people():
                    return list(place)
                without.board[place] = None
        return -33

    def call_look(self, p):
        if self.missing(p):
            return -2
        place = self.place_of(p)
        return [self.tall[p]] + ([0, 0, 0] if place is None else [1, *place])

    def call_sums(self):
        placed = [p for p in self.board.values() if p is not None]
        seen = self.seen_people()
        return [len(self.tall), len(placed), len(seen), len(placed) - len(seen), len(self.near), len(self.far)]

    def call_state(self):
        return [self.width, self.face, len(self.steps)] + self.steps


HEIGHTS = (49, 50, 60, 70, 80, 90, 100, 110, 120, 150, 250, 251)
STEPS = (0, 0, 10, 20, 40, 60, 100, 200)


def drawn_begin(source, rows, width):
    steps = [source.choice(STEPS) for row in range(rows)]
    if source.random() < 0.5:
        steps.sort()
    return ("begin", width, source.choice((5, 10, 10, 20, 60)), steps)


def drawn_number(source, count):
    """Mostly the number of one that's there; now and then one beyond the last, or the largest."""
    return source.choices((source.randrange(count), count, 4294967295), (20, 2, 1))[0]


def drawn_call(source, name, rows, width, people):
    if name == "begin":
        wrong = [("begin", 7, 10, [0]), ("begin", 1, 4, [0]), ("begin", 1, 5, []), ("begin", 6, 60, [0, 201])]
        return source.choice(wrong + [drawn_begin(source, rows, width)])
    if name == "person":
        return (name, source.choice(HEIGHTS))
    if name == "put":
        place = (drawn_number(source, rows), drawn_number(source, width))
        return (name, drawn_number(source, people)) + place
    if name in ("swap", "wish", "apart", "forget"):
        return (name, drawn_number(source, people), drawn_number(source, people))
    if name in ("column", "mend"):
        return (name, drawn_number(source, width))
    if name in ("row", "hill", "shape", "form", "please", "seat"):
        return (name, drawn_number(source, rows))
    if name in ("hidden", "all", "met", "free", "sums", "state"):
        return (name,)
    return (name, drawn_number(source, people))


def drawn_people(source, rows, width, people):
    """So many people, most of whom come to stand somewhere, with some wishes."""
    calls = [("person", source.randrange(50, 160, source.choice((5, 10, 30)))) for p in range(people)]
    places = source.sample(list(itertools.product(range(rows), range(width))), rows * width)
    calls += [("put", p) + place for p, place in zip(range(people), places) if source.random() < 0.9]
    return calls + [drawn_call(source, "wish", rows, width, people) for p in range(source.randint(0, 2 * people))]


def drawn_line(source):
    """Up to 400 calls: a few ahead of a begin, people who come to stand, then every call in any order."""
    rows = source.randint(1, 5)
    width = source.randint(1, 6)
    people = source.choice((1, 3, 5, 8, 12, 16, 20, 20))
    calls = [drawn_call(source, source.choice(NAMES[1:]), rows, width, people) for k in range(source.choice((0, 0, 3)))]
    calls.append(drawn_begin(source, rows, width))
    calls += drawn_people(source, rows, width, people)
    # Rare is what would empty the rows, or undo what mend, form and seat have done.
    weights = dict.fromkeys(NAMES, 4)
    weights.update({"begin": source.choice((0, 0, 0, 1)), "off": 0.5, "person": 1, "swap": 8})
    length = source.choice((150, 200, 300, 400))
    names = source.choices(NAMES, [weights[name] for name in NAMES], k=length - len(calls))
    return calls + [drawn_call(source, name, rows, width, people) for name in names]


class Lines(unittest.TestCase):
    def agree(self, calls, seed):
        """The answers to these calls, which are the model's."""
        model = Model()
        found = ask(calls)
        for at, (call, answer) in enumerate(zip(calls, found)):
            self.assertEqual(answer, model.answer(call), f"seed {seed}, call {at}: {call}")
        return found

    def test_lines_of_calls(self):
        found = collections.Counter()
        for seed in range(500):
            calls = drawn_line(random.Random(seed))
            self.assertLessEqual(len(calls), 400)
            for call, answer in zip(calls, self.agree(calls, seed)):
                found[call[0], min(answer[0], 0)] += 1
        expected = {(name, 0) for name in NAMES} | {(name, -11) for name in NAMES[1:]}
        expected |= {(name, refusal) for name in NAMES for refusal in REFUSALS[name]}
        self.assertEqual(set(found), expected)

    def test_every_call_right_behind_every_other(self):
        for seed, first in enumerate(NAMES * 4):
            source = random.Random(seed)
            calls = [drawn_begin(source, 3, 4)] + drawn_people(source, 3, 4, 10)
            for name in NAMES:
                calls.append(drawn_call(source, first, 3, 4, 10))
                calls.append(drawn_call(source, name, 3, 4, 10))
            self.agree(calls, seed)

    def test_full_columns(self):
        """Every height order of five on steps that rise, are level, or fall."""
        for steps in ([0, 30, 60, 90, 120], [0, 0, 0, 0, 0], [60, 0, 60, 0, 60], [0, 100, 50, 200, 150]):
            for heights in itertools.permutations((80, 90, 100, 100, 140)):
                calls = [("begin", 1, 10, steps)] + [("person", height) for height in heights]
                calls += [("put", p, 4 - p, 0) for p in range(5)] + [("column", 0), ("hidden",)]
                calls += [("spare", p) for p in range(5)] + [("good", p) for p in range(5)] + [("sums",)]
                self.agree(calls, heights)

    def test_full_rows(self):
        """Six in a row, or five with a gap, of few or many heights and wishes: shaped, pleased, formed, seated."""
        for seed in range(150):
            source = random.Random(seed)
            columns = source.sample(range(6), source.choice((4, 5, 6, 6)))
            heights = [source.choice(source.choice(((90, 100), (90, 100, 110), range(50, 251)))) for c in columns]
            calls = [("begin", 6, 10, [0, 20])] + [("person", height) for height in heights]
            calls += [("put", p, 1, c) for p, c in enumerate(columns)]
            pairs = list(itertools.permutations(range(len(columns)), 2))
            told = [source.choice(("wish", "wish", "apart")) for k in range(source.randint(0, 12))]
            calls += [(name,) + source.choice(pairs) for name in told]
            asked = ("shape", "please", "hill", "form", "please", "row", "seat", "row", "shape")
            calls += [(name, 1) for name in asked]
            self.agree(calls, seed)


if __name__ == "__main__":
    unittest.main()
