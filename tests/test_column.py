"""Column: point 4."""

import unittest

from tests.helper import ask, last, standing

LARGEST = 4294967295


def column_of(face, steps, people):
    """What column answers for these people in one column: (height, row)."""
    return last(standing(face, steps, 1, [(height, row, 0) for height, row in people]) + [("column", 0)])


class Column(unittest.TestCase):
    def test_no_such_column(self):
        calls = standing(10, (0,), 3, [(100, 0, 0)])
        for column, answer in ((2, [0]), (3, [-22]), (6, [-22]), (LARGEST, [-22])):
            with self.subTest(column):
                self.assertEqual(last(calls + [("column", column)]), answer)

    def test_nobody(self):
        self.assertEqual(column_of(10, (0, 0), []), [0])

    def test_one_alone(self):
        for row in range(3):
            with self.subTest(row):
                self.assertEqual(column_of(60, (200, 100, 0), [(50, row)]), [0, 0])

    def test_nobody_is_moved_where_all_are_seen(self):
        self.assertEqual(column_of(10, (0, 20, 40), [(100, 2), (100, 1), (100, 0)]), [0, 2, 1, 0])

    def test_two_change(self):
        self.assertEqual(column_of(10, (0, 0), [(100, 1), (110, 0)]), [2, 0, 1])

    def test_a_head_just_as_high_as_has_to_be(self):
        self.assertEqual(column_of(10, (0, 0), [(110, 0), (100, 1)]), [2, 1, 0])
        self.assertEqual(column_of(11, (0, 0), [(110, 0), (100, 1)]), [-33])

    def test_two_as_tall(self):
        self.assertEqual(column_of(10, (0, 10), [(100, 0), (100, 1)]), [0, 0, 1])
        self.assertEqual(column_of(10, (0, 9), [(100, 0), (100, 1)]), [-33])

    def test_two_as_tall_stay_where_they_stand(self):
        self.assertEqual(column_of(10, (0, 20, 40), [(100, 2), (100, 0), (110, 1)]), [0, 1, 2, 0])

    def test_a_step_in_front_that_is_higher(self):
        self.assertEqual(column_of(10, (50, 0), [(160, 0), (100, 1)]), [2, 1, 0])
        self.assertEqual(column_of(10, (50, 0), [(159, 0), (100, 1)]), [-33])

    def test_somebody_two_rows_in_front(self):
        self.assertEqual(column_of(10, (200, 0, 0), [(60, 0), (100, 2)]), [-33])
        # The middle one is seen behind nobody but the front one, and the last behind both.
        self.assertEqual(column_of(10, (30, 200, 0), [(50, 0), (60, 1), (250, 2)]), [-33])
        self.assertEqual(column_of(10, (30, 150, 0), [(50, 0), (60, 1), (250, 2)]), [0, 0, 1, 2])

    def test_three_in_a_ring(self):
        self.assertEqual(column_of(10, (0, 0, 0), [(120, 0), (100, 1), (110, 2)]), [3, 1, 2, 0])

    def test_places_with_nobody_stay_empty(self):
        # On rows 0, 2 and 4 alone: the higher steps of rows 1 and 3 play no part.
        self.assertEqual(column_of(10, (0, 200, 0, 200, 0), [(120, 0), (110, 2), (100, 4)]), [2, 2, 1, 0])

    def test_fewest_moved_comes_ahead_of_the_first(self):
        # Order 0 1 2 would be seen too and is the first, but moves two.
        self.assertEqual(column_of(5, (0, 50, 100), [(100, 0), (100, 2), (100, 1)]), [0, 0, 2, 1])
        # 2 has to stand last: 0 1 3 2 would come ahead of 0 3 1 2, but moves all four.
        people = [(100, 3), (100, 2), (160, 0), (100, 1)]
        self.assertEqual(column_of(10, (0, 50, 100, 150), people), [2, 0, 3, 1, 2])

    def test_the_first_of_those_with_as_few_moved(self):
        # 2 has to leave the front and may change with 1, or with 0, who is the lesser.
        people = [(100, 2), (100, 1), (145, 0)]
        self.assertEqual(column_of(10, (0, 50, 110), people), [2, 0, 1, 2])
        # Here 1 comes to the front, as 0 is too tall for it.
        people = [(160, 2), (100, 1), (150, 0)]
        self.assertEqual(column_of(10, (0, 30, 100), people), [2, 1, 2, 0])

    def test_no_order(self):
        self.assertEqual(column_of(60, (0, 0, 0, 0, 0), [(200, row) for row in range(5)]), [-33])

    def test_five(self):
        people = [(140 - 10 * row, row) for row in range(5)]
        self.assertEqual(column_of(10, (0, 0, 0, 0, 0), people), [4, 4, 3, 2, 1, 0])

    def test_other_columns_play_no_part(self):
        people = [(110, 0, 1), (100, 1, 1), (250, 0, 0), (50, 1, 0), (250, 0, 2), (250, 1, 2), (60,)]
        calls = standing(10, (0, 0), 3, people) + [("column", 0), ("column", 1), ("column", 2)]
        self.assertEqual(ask(calls)[-3:], [[2, 3, 2], [2, 1, 0], [-33]])

    def test_nobody_stands_elsewhere_afterwards(self):
        calls = standing(10, (0, 0), 1, [(110, 0, 0), (100, 1, 0)])
        calls += [("column", 0), ("seen", 1), ("column", 0), ("off", 0), ("off", 1)]
        self.assertEqual(ask(calls)[-5:], [[2, 1, 0], [0], [2, 1, 0], [0, 0], [1, 0]])


if __name__ == "__main__":
    unittest.main()
