"""Please and seat: point 5, and that no order of a row meets more wishes."""

import itertools
import unittest

from tests.helper import ask, held, last, probe, standing

LARGEST = 4294967295


def in_one_row(width, columns, wishes):
    """The calls by which people stand in row 1 of three, in these columns by their numbers, with these wishes."""
    calls = standing(10, (0, 50, 20), width, [(100, 1, column) for column in columns])
    return calls + [("wish", p, q) for p, q in wishes]


def please_of(width, columns, wishes):
    return last(in_one_row(width, columns, wishes) + [("please", 1)])


def seated(width, columns, wishes):
    """What seat answers, and in which columns of their row they stand then."""
    calls = in_one_row(width, columns, wishes) + [("seat", 1)]
    return last(calls), [place[1] for place in held(calls, len(columns)) if place[0] == 1]


class Refused(unittest.TestCase):
    def test_no_such_row(self):
        calls = standing(10, (0, 0, 0), 2, [(100, 2, 1), (100, 2, 0)]) + [("wish", 0, 1)]
        for name, answer in (("please", [1, 0, 1]), ("seat", [1, 2])):
            for row, expected in ((2, answer), (3, [-22]), (5, [-22]), (LARGEST, [-22])):
                with self.subTest(name, row=row):
                    self.assertEqual(last(calls + [(name, row)]), expected)

    def test_a_refused_seat_changes_nothing(self):
        before = in_one_row(3, (2, 1, 0), [(0, 2)])
        after = before + [("seat", 3)]
        self.assertEqual(ask(after + probe(3, 3))[len(after):], ask(before + probe(3, 3))[len(before):])


class Please(unittest.TestCase):
    def test_nobody_and_one_alone(self):
        self.assertEqual(please_of(3, (), []), [0])
        self.assertEqual(please_of(3, (1,), []), [0, 0])

    def test_without_wishes_it_is_the_first_order(self):
        self.assertEqual(please_of(4, (3, 1, 0, 2), []), [0, 0, 1, 2, 3])

    def test_one_pair(self):
        self.assertEqual(please_of(3, (0, 1, 2), [(0, 1)]), [1, 0, 1, 2])
        self.assertEqual(please_of(3, (0, 1, 2), [(0, 2)]), [1, 0, 2, 1])
        self.assertEqual(please_of(3, (0, 1, 2), [(1, 2)]), [1, 0, 1, 2])

    def test_a_wish_told_the_other_way_round(self):
        self.assertEqual(please_of(3, (0, 1, 2), [(2, 0)]), [1, 0, 2, 1])
        self.assertEqual(please_of(4, (0, 1, 2, 3), [(3, 0), (2, 3)]), [2, 0, 3, 2, 1])

    def test_not_all_wishes_come_true(self):
        self.assertEqual(please_of(4, (0, 1, 2, 3), [(0, 1), (0, 2), (0, 3)]), [2, 1, 0, 2, 3])
        everybody = list(itertools.combinations(range(6), 2))
        self.assertEqual(please_of(6, range(6), everybody), [5, 0, 1, 2, 3, 4, 5])
        ring = [(0, 3), (3, 1), (1, 5), (5, 2), (2, 4), (4, 0)]
        self.assertEqual(please_of(6, range(6), ring), [5, 0, 3, 1, 5, 2, 4])

    def test_more_wishes_come_ahead_of_the_first(self):
        # An order that begins with 0 meets two at most.
        self.assertEqual(please_of(4, (0, 1, 2, 3), [(1, 2), (2, 0), (0, 3)]), [3, 1, 2, 0, 3])

    def test_the_first_and_not_the_one_with_fewest_moved(self):
        # As they stand, 2 1 0, both wishes are met; so they are the other way round, which comes first.
        self.assertEqual(please_of(3, (2, 1, 0), [(0, 1), (1, 2)]), [2, 0, 1, 2])

    def test_nobody_is_moved(self):
        self.assertEqual(please_of(3, (0, 1, 2), [(0, 1), (1, 2)]), [2, 0, 1, 2])

    def test_with_an_empty_place_between_they_are_not_beside(self):
        self.assertEqual(please_of(3, (0, 2), [(0, 1)]), [0, 0, 1])
        self.assertEqual(please_of(6, (0, 2, 4), [(0, 1), (1, 2), (0, 2)]), [0, 0, 1, 2])

    def test_nobody_in_its_middle(self):
        # Columns 0, 1 and 3: only the first two of an order stand beside each other.
        self.assertEqual(please_of(4, (0, 1, 3), [(0, 2)]), [1, 0, 2, 1])
        self.assertEqual(please_of(4, (0, 1, 3), [(1, 2)]), [1, 1, 2, 0])
        self.assertEqual(please_of(4, (0, 1, 3), [(0, 1), (1, 2)]), [1, 0, 1, 2])
        # Columns 0, 1, 4 and 5: two pairs of places.
        self.assertEqual(please_of(6, (0, 1, 4, 5), [(0, 3), (1, 2)]), [2, 0, 3, 1, 2])
        self.assertEqual(please_of(6, (0, 1, 4, 5), [(0, 1), (1, 2), (1, 3)]), [1, 0, 1, 2, 3])

    def test_apart_plays_no_part(self):
        calls = in_one_row(3, (0, 1, 2), [(0, 2)]) + [("apart", 0, 1), ("apart", 1, 2), ("please", 1)]
        self.assertEqual(last(calls), [1, 0, 2, 1])
        self.assertEqual(last(in_one_row(2, (1, 0), []) + [("apart", 0, 1), ("please", 1)]), [0, 0, 1])

    def test_a_forgotten_wish_plays_no_part(self):
        calls = in_one_row(3, (0, 1, 2), [(0, 2)]) + [("forget", 2, 0), ("please", 1)]
        self.assertEqual(last(calls), [0, 0, 1, 2])

    def test_who_stands_in_another_row_plays_no_part(self):
        people = [(100, 0, 0), (100, 0, 1), (100, 1, 0), (100, 1, 1), (100,)]
        calls = standing(10, (0, 0), 2, people)
        calls += [("wish", 0, 2), ("wish", 1, 3), ("wish", 4, 0), ("please", 0), ("please", 1)]
        self.assertEqual(ask(calls)[-2:], [[0, 0, 1], [0, 2, 3]])

    def test_how_tall_they_are_plays_no_part(self):
        people = [(250, 0, 2), (50, 0, 1), (140, 0, 0)]
        self.assertEqual(last(standing(10, (0,), 3, people) + [("wish", 0, 2), ("please", 0)]), [1, 0, 2, 1])

    def test_it_changes_nothing(self):
        calls = in_one_row(3, (2, 1, 0), [(0, 2)]) + [("please", 1), ("row", 1), ("met",), ("please", 1)]
        self.assertEqual(ask(calls)[-4:], [[1, 0, 2, 1], [3, 3, 2, 1], [0, 1, 0, 0, 0], [1, 0, 2, 1]])

    def test_every_choice_of_wishes_of_four(self):
        """Against every order, with most pairs, then the first one, found by sorting."""
        pairs = list(itertools.combinations(range(4), 2))
        for columns in ((0, 1, 2, 3), (5, 4, 2, 1), (2, 0, 5, 3)):
            places = sorted(columns)
            for choice in range(2 ** len(pairs)):
                wishes = [pair for k, pair in enumerate(pairs) if choice >> k & 1]
                ranked = []
                for order in itertools.permutations(range(4)):
                    where = dict(zip(order, places))
                    ranked.append([-sum(abs(where[p] - where[q]) == 1 for p, q in wishes)] + list(order))
                best = sorted(ranked)[0]
                self.assertEqual(please_of(6, columns, wishes), [-best[0]] + best[1:], (columns, wishes))


class Seat(unittest.TestCase):
    def test_nobody_and_one_alone(self):
        self.assertEqual(seated(3, (), []), ([0, 0], []))
        self.assertEqual(seated(3, (1,), []), ([0, 0], [1]))

    def test_they_stand_so(self):
        self.assertEqual(seated(3, (0, 1, 2), [(0, 2)]), ([1, 2], [0, 2, 1]))
        self.assertEqual(seated(3, (1, 0, 2), [(0, 2)]), ([1, 3], [0, 2, 1]))

    def test_a_wish_told_the_other_way_round(self):
        self.assertEqual(seated(3, (0, 1, 2), [(2, 0)]), ([1, 2], [0, 2, 1]))

    def test_nobody_is_moved(self):
        self.assertEqual(seated(3, (0, 1, 2), [(0, 1), (1, 2)]), ([2, 0], [0, 1, 2]))
        self.assertEqual(seated(3, (0, 2, 1), [(0, 2)]), ([1, 0], [0, 2, 1]))

    def test_to_the_first_order_even_where_no_wish_needs_it(self):
        self.assertEqual(seated(3, (2, 1, 0), [(0, 1), (1, 2)]), ([2, 2], [0, 1, 2]))
        self.assertEqual(seated(4, (3, 2, 1, 0), []), ([0, 4], [0, 1, 2, 3]))

    def test_nobody_in_its_middle(self):
        # The empty places stay empty.
        self.assertEqual(seated(4, (0, 1, 3), [(1, 2)]), ([1, 3], [3, 0, 1]))
        self.assertEqual(seated(3, (2, 0), [(0, 1)]), ([0, 2], [0, 2]))

    def test_nobody_else_stands_elsewhere(self):
        people = [(100, 1, 0), (100, 1, 1), (100, 1, 2), (100, 0, 2), (100, 0, 0), (100, 2, 1), (100,)]
        calls = standing(10, (0, 0, 0), 3, people) + [("wish", 0, 2), ("wish", 3, 4), ("wish", 6, 0), ("seat", 1)]
        self.assertEqual(last(calls), [1, 2])
        self.assertEqual(held(calls, 7), [(1, 0), (1, 2), (1, 1), (0, 2), (0, 0), (2, 1), None])

    def test_met_follows(self):
        calls = in_one_row(4, (0, 2, 1, 3), [(0, 1), (2, 3)]) + [("met",), ("seat", 1), ("met",)]
        self.assertEqual(ask(calls)[-3:], [[0, 2, 0, 0, 0], [2, 2], [2, 2, 2, 0, 0]])

    def test_every_choice_of_wishes_of_four(self):
        """It answers what please tells, they stand so, and so many near pairs are met."""
        pairs = list(itertools.combinations(range(4), 2))
        for columns in ((3, 1, 2, 0), (5, 4, 2, 1), (2, 0, 5, 3)):
            for choice in range(2 ** len(pairs)):
                calls = in_one_row(6, columns, [pair for k, pair in enumerate(pairs) if choice >> k & 1])
                told = last(calls + [("please", 1)])
                calls.append(("seat", 1))
                places = [(1, column) for column in sorted(columns)]
                moved = sum((1, columns[p]) != place for p, place in zip(told[1:], places))
                self.assertEqual(last(calls), [told[0], moved])
                after = held(calls, 4)
                self.assertEqual([after[p] for p in told[1:]], places)
                self.assertEqual(last(calls + [("met",)])[2], told[0])
                self.assertEqual(last(calls + [("please", 1)]), told)


if __name__ == "__main__":
    unittest.main()
