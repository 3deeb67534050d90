"""Mend: point 4, and that mended all in a column are seen, with nobody else moved."""

import itertools
import unittest

from tests.helper import ask, held, last, probe, standing

LARGEST = 4294967295


def in_one_column(face, steps, people):
    """The calls by which these people stand in one column: (height, row)."""
    return standing(face, steps, 1, [(height, row, 0) for height, row in people])


def mended(face, steps, people):
    """What mend answers for these people in one column, and in which rows they stand then."""
    calls = in_one_column(face, steps, people) + [("mend", 0)]
    return last(calls), [place[0] for place in held(calls, len(people))]


class Refused(unittest.TestCase):
    def test_no_such_column(self):
        calls = standing(10, (0, 0), 3, [(110, 0, 2), (100, 1, 2)])
        for column, answer in ((0, [0]), (2, [2]), (3, [-22]), (6, [-22]), (LARGEST, [-22])):
            with self.subTest(column):
                self.assertEqual(last(calls + [("mend", column)]), answer)

    def test_no_order(self):
        calls = in_one_column(60, (0, 0, 0, 0, 0), [(200, row) for row in range(5)])
        self.assertEqual(last(calls + [("mend", 0)]), [-33])

    def test_where_there_is_no_order_nobody_is_moved(self):
        # Some of them could be seen in another order, but never all three.
        before = in_one_column(10, (0, 0, 0), [(120, 0), (100, 1), (105, 2)])
        after = before + [("mend", 0)]
        self.assertEqual(last(after), [-33])
        self.assertEqual(ask(after + probe(3, 1))[len(after):], ask(before + probe(3, 1))[len(before):])


class Mend(unittest.TestCase):
    def test_nobody(self):
        self.assertEqual(last([("begin", 1, 10, [0, 0]), ("mend", 0)]), [0])

    def test_a_column_of_one(self):
        for row in range(3):
            with self.subTest(row):
                self.assertEqual(mended(60, (200, 100, 0), [(50, row)]), ([0], [row]))

    def test_two_change(self):
        self.assertEqual(mended(10, (0, 0), [(120, 0), (100, 1)]), ([2], [1, 0]))

    def test_nobody_is_moved_where_all_are_seen(self):
        self.assertEqual(mended(10, (0, 20, 40), [(100, 2), (100, 1), (100, 0)]), ([0], [2, 1, 0]))

    def test_a_head_just_as_high_as_has_to_be(self):
        self.assertEqual(mended(10, (0, 0), [(110, 0), (100, 1)]), ([2], [1, 0]))
        self.assertEqual(mended(11, (0, 0), [(110, 0), (100, 1)]), ([-33], [0, 1]))
        self.assertEqual(mended(10, (0, 0), [(100, 0), (110, 1)]), ([0], [0, 1]))

    def test_a_step_in_front_that_is_higher(self):
        self.assertEqual(mended(10, (50, 0), [(160, 0), (100, 1)]), ([2], [1, 0]))
        self.assertEqual(mended(10, (50, 0), [(159, 0), (100, 1)]), ([-33], [0, 1]))

    def test_somebody_two_rows_in_front(self):
        # Nobody stands in the row between: the next row alone would hide nobody.
        self.assertEqual(mended(10, (0, 0, 0), [(110, 0), (100, 2)]), ([2], [2, 0]))
        self.assertEqual(mended(10, (0, 0, 0), [(109, 0), (100, 2)]), ([-33], [0, 2]))
        self.assertEqual(mended(10, (200, 0, 0), [(60, 0), (100, 2)]), ([-33], [0, 2]))

    def test_two_as_tall(self):
        self.assertEqual(mended(10, (0, 10), [(100, 1), (100, 0)]), ([0], [1, 0]))
        self.assertEqual(mended(10, (0, 9), [(100, 1), (100, 0)]), ([-33], [1, 0]))

    def test_three_in_a_ring(self):
        self.assertEqual(mended(10, (0, 0, 0), [(120, 0), (100, 1), (110, 2)]), ([3], [2, 0, 1]))

    def test_the_first_of_those_with_as_few_moved(self):
        self.assertEqual(mended(10, (0, 50, 110), [(100, 2), (100, 1), (145, 0)]), ([2], [0, 1, 2]))

    def test_places_with_nobody_stay_empty(self):
        self.assertEqual(mended(10, (0, 200, 0, 200, 0), [(120, 0), (110, 2), (100, 4)]), ([2], [4, 2, 0]))

    def test_nobody_else_stands_elsewhere(self):
        people = [(110, 0, 1), (100, 1, 1), (250, 0, 0), (50, 1, 0), (250, 0, 2), (250, 1, 2), (60,)]
        calls = standing(10, (0, 0), 3, people) + [("mend", 1)]
        self.assertEqual(last(calls), [2])
        self.assertEqual(held(calls, 7), [(1, 1), (0, 1), (0, 0), (1, 0), (0, 2), (1, 2), None])

    def test_what_is_told_of_pairs_stays(self):
        calls = standing(10, (0, 0), 2, [(110, 0, 0), (100, 1, 0), (100, 0, 1)])
        calls += [("wish", 1, 2), ("apart", 0, 2), ("met",), ("mend", 0), ("met",)]
        self.assertEqual(ask(calls)[-3:], [[0, 1, 0, 1, 0], [2], [2, 1, 1, 1, 1]])

    def test_every_order_of_five(self):
        """It answers what column tells, they stand so, and all are seen."""
        for steps in ([0, 30, 60, 90, 120], [0, 0, 0, 0, 0], [60, 0, 60, 0, 60], [0, 100, 50, 200, 150]):
            for heights in itertools.permutations((80, 90, 100, 100, 140)):
                calls = in_one_column(10, steps, [(height, 4 - p) for p, height in enumerate(heights)])
                told = last(calls + [("column", 0)])
                calls.append(("mend", 0))
                self.assertEqual(last(calls), told[:1])
                places = held(calls, 5)
                if told == [-33]:
                    self.assertEqual(places, [(4, 0), (3, 0), (2, 0), (1, 0), (0, 0)])
                    continue
                self.assertEqual([places[p] for p in told[1:]], [(row, 0) for row in range(5)])
                self.assertEqual(ask(calls + [("all",), ("column", 0)])[-2:], [[1], [0] + told[1:]])


if __name__ == "__main__":
    unittest.main()
