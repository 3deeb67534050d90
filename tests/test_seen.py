"""Seen, hidden, hides, all and spare: point 3, and that one is seen by all in front."""

import unittest

from tests.helper import ask, last, standing

LARGEST = 4294967295


class Seen(unittest.TestCase):
    def test_a_head_just_as_high_as_has_to_be(self):
        for face in (5, 37, 60):
            for front, back in ((0, 0), (0, 40), (40, 0), (200, 200)):
                needed = 100 + front + face - back
                for height, answer in ((needed - 1, 0), (needed, 1), (needed + 1, 1)):
                    calls = standing(face, (front, back), 1, [(100, 0, 0), (height, 1, 0)])
                    with self.subTest(face=face, front=front, back=back, height=height):
                        self.assertEqual(last(calls + [("seen", 1)]), [answer])

    def test_a_step_in_front_that_is_higher(self):
        calls = standing(10, (50, 0), 1, [(100, 0, 0), (159, 1, 0), (160,)])
        self.assertEqual(last(calls + [("seen", 1)]), [0])
        self.assertEqual(last(calls + [("off", 1), ("put", 2, 1, 0)]), [1])

    def test_somebody_two_rows_in_front(self):
        calls = standing(10, (0, 0, 0), 1, [(200, 0, 0), (100, 1, 0), (150, 2, 0)])
        self.assertEqual(ask(calls + [("seen", 2), ("hides", 2)])[-2:], [[0], [1, 0]])

    def test_the_last_row_behind_four(self):
        for row in range(4):
            people = [(100, k, 0) for k in range(4)] + [(120, 4, 0)]
            people[row] = (101, row, 0)
            calls = standing(20, (0, 0, 0, 0, 0), 1, people)
            with self.subTest(row):
                self.assertEqual(last(calls + [("hides", 4)]), [1, row])

    def test_two_as_tall(self):
        calls = standing(10, (0, 9, 10), 1, [(100, 0, 0), (100,)])
        self.assertEqual(last(calls + [("put", 1, 1, 0)]), [0])
        self.assertEqual(last(calls + [("put", 1, 2, 0)]), [1])

    def test_nobody_behind_or_in_another_column_hides(self):
        people = [(60, 1, 1), (250, 2, 1), (250, 1, 0), (250, 0, 0), (250, 0, 2), (250, 1, 2), (250,)]
        calls = standing(60, (0, 0, 200), 3, people)
        self.assertEqual(ask(calls + [("seen", 0), ("hides", 0)])[-2:], [[1], [0]])

    def test_refusals(self):
        calls = standing(10, (0,), 1, [(100,)])
        for name in ("seen", "hides"):
            with self.subTest(name):
                self.assertEqual(last(calls + [(name, 0)]), [-6])
                self.assertEqual(last(calls + [(name, 1)]), [-2])
                self.assertEqual(last(calls + [(name, LARGEST)]), [-2])


class Hides(unittest.TestCase):
    def test_from_the_front_and_not_by_number(self):
        people = [(200, 2, 0), (200, 0, 0), (50, 1, 0), (100, 4, 0), (200, 3, 0)]
        calls = standing(10, (0, 0, 0, 0, 0), 1, people)
        self.assertEqual(last(calls + [("hides", 3)]), [3, 1, 0, 4])
        self.assertEqual(last(calls + [("hides", 2)]), [1, 1])
        self.assertEqual(last(calls + [("hides", 4)]), [2, 1, 0])

    def test_who_is_hidden_hides_too(self):
        calls = standing(10, (0, 0, 0), 1, [(200, 0, 0), (150, 1, 0), (100, 2, 0)])
        self.assertEqual(last(calls + [("hides", 2)]), [2, 0, 1])


class Hidden(unittest.TestCase):
    def test_rising(self):
        people = [(100, 2, 1), (200, 0, 1), (100, 1, 0), (200, 0, 0), (50, 1, 1), (50,), (60, 0, 2)]
        self.assertEqual(last(standing(10, (0, 0, 0), 3, people) + [("hidden",)]), [3, 0, 2, 4])

    def test_who_is_not_placed_is_not_hidden(self):
        self.assertEqual(last(standing(10, (0,), 1, [(50,), (50, 0, 0), (60,)]) + [("hidden",)]), [0])

    def test_nobody(self):
        self.assertEqual(last([("begin", 1, 10, [0]), ("hidden",)]), [0])


class All(unittest.TestCase):
    def test_everybody_is_seen(self):
        self.assertEqual(last(standing(10, (0, 0), 2, [(100, 0, 0), (110, 1, 0), (50, 1, 1)]) + [("all",)]), [1])

    def test_one_is_hidden(self):
        self.assertEqual(last(standing(10, (0, 0), 2, [(100, 0, 0), (109, 1, 0), (50, 1, 1)]) + [("all",)]), [0])

    def test_who_is_not_placed_is_not_seen(self):
        self.assertEqual(last(standing(10, (0,), 2, [(100, 0, 0), (100,)]) + [("all",)]), [0])
        self.assertEqual(last(standing(10, (0,), 2, [(100,)]) + [("all",)]), [0])

    def test_nobody(self):
        self.assertEqual(last([("begin", 1, 10, [0]), ("all",)]), [1])


class Spare(unittest.TestCase):
    def spare(self, face, steps, people, p):
        """What spare answers of these people in one column: (height, row)."""
        calls = standing(face, steps, 1, [(height, row, 0) for height, row in people])
        return last(calls + [("spare", p)])

    def test_higher_lower_and_just_as_high_as_has_to_be(self):
        for height, answer in ((109, [0, 1]), (110, [0, 0]), (111, [1, 0]), (50, [0, 60]), (250, [140, 0])):
            with self.subTest(height):
                self.assertEqual(self.spare(10, (0, 0), [(100, 0), (height, 1)], 1), answer)

    def test_the_face_is_counted(self):
        for face in (5, 37, 60):
            with self.subTest(face):
                self.assertEqual(self.spare(face, (0, 0), [(100, 0), (160, 1)], 1), [60 - face, 0])

    def test_a_step_in_front_that_is_higher(self):
        self.assertEqual(self.spare(10, (50, 0), [(100, 0), (159, 1)], 1), [0, 1])
        self.assertEqual(self.spare(10, (50, 0), [(100, 0), (162, 1)], 1), [2, 0])
        self.assertEqual(self.spare(60, (200, 0), [(250, 0), (50, 1)], 1), [0, 460])
        self.assertEqual(self.spare(5, (0, 200), [(50, 0), (250, 1)], 1), [395, 0])

    def test_the_highest_head_in_front_counts(self):
        # Behind 1 alone they'd be seen; 0, two rows in front, is the tallest.
        self.assertEqual(self.spare(10, (0, 0, 0), [(200, 0), (100, 1), (150, 2)], 2), [0, 60])
        self.assertEqual(self.spare(10, (0, 0, 0), [(100, 0), (200, 1), (150, 2)], 2), [0, 60])
        # The highest head and not the tallest.
        self.assertEqual(self.spare(10, (100, 0, 0), [(60, 0), (140, 1), (200, 2)], 2), [30, 0])

    def test_somebody_two_rows_in_front(self):
        self.assertEqual(self.spare(10, (0, 200, 0), [(100, 0), (105, 2)], 1), [0, 5])

    def test_two_as_tall(self):
        self.assertEqual(self.spare(10, (0, 10), [(100, 0), (100, 1)], 1), [0, 0])
        self.assertEqual(self.spare(10, (0, 0), [(100, 0), (100, 1)], 1), [0, 10])

    def test_nobody_in_front(self):
        self.assertEqual(self.spare(10, (0, 0), [(100, 0)], 0), [-33])
        self.assertEqual(self.spare(10, (0, 0), [(100, 1)], 0), [-33])
        # Who stands behind, or in another column, isn't in front.
        people = [(100, 1, 1), (250, 2, 1), (250, 0, 0), (250, 1, 0), (250, 0, 2), (250,)]
        self.assertEqual(last(standing(10, (0, 0, 0), 3, people) + [("spare", 0)]), [-33])

    def test_who_stands_behind_is_not_counted(self):
        self.assertEqual(self.spare(10, (0, 0, 200), [(100, 0), (120, 1), (250, 2)], 1), [10, 0])

    def test_refusals_and_their_ranks(self):
        calls = standing(10, (0,), 2, [(100, 0, 0), (100,)])
        for p, answer in ((0, -33), (1, -6), (2, -2), (20, -2), (LARGEST, -2)):
            with self.subTest(p):
                self.assertEqual(last(calls + [("spare", p)]), [answer])

    def test_who_lacks_nothing_is_seen(self):
        for heights in ((100, 90, 130, 120, 140), (140, 150, 100, 160, 90)):
            calls = standing(10, (0, 30, 10, 60, 20), 1, [(height, row, 0) for row, height in enumerate(heights)])
            for p in range(1, 5):
                with self.subTest(heights, p=p):
                    lacks = last(calls + [("spare", p)])[1]
                    self.assertEqual(last(calls + [("seen", p)]), [int(lacks == 0)])


if __name__ == "__main__":
    unittest.main()
