"""Seen, hidden, hides and all: point 3, and that one is seen by all in front."""

import unittest

from tests.helper import ask, last, standing

LARGEST = 4294967295


class Seen(unittest.TestCase):
    def test_a_head_just_as_high_as_has_to_be(self):
        for face in (5, 37, 60):
            for front, back in ((0, 0), (0, 40), (40, 0), (200, 200)):
                needed = 100 + front + face - back
                for height, answer in ((needed - 1, 0), (needed, 1), (needed + 1, 1)):
                    calls = standing(face, (front, back), 1, [(100, 0, 0), (height, 1, 0)])
                    with self.subTest(face=face, front=front, back=back, height=height):
                        self.assertEqual(last(calls + [("seen", 1)]), [answer])

    def test_a_step_in_front_that_is_higher(self):
        calls = standing(10, (50, 0), 1, [(100, 0, 0), (159, 1, 0), (160,)])
        self.assertEqual(last(calls + [("seen", 1)]), [0])
        self.assertEqual(last(calls + [("off", 1), ("put", 2, 1, 0)]), [1])

    def test_somebody_two_rows_in_front(self):
        calls = standing(10, (0, 0, 0), 1, [(200, 0, 0), (100, 1, 0), (150, 2, 0)])
        self.assertEqual(ask(calls + [("seen", 2), ("hides", 2)])[-2:], [[0], [1, 0]])

    def test_the_last_row_behind_four(self):
        for row in range(4):
            people = [(100, k, 0) for k in range(4)] + [(120, 4, 0)]
            people[row] = (101, row, 0)
            calls = standing(20, (0, 0, 0, 0, 0), 1, people)
            with self.subTest(row):
                self.assertEqual(last(calls + [("hides", 4)]), [1, row])

    def test_two_as_tall(self):
        calls = standing(10, (0, 9, 10), 1, [(100, 0, 0), (100,)])
        self.assertEqual(last(calls + [("put", 1, 1, 0)]), [0])
        self.assertEqual(last(calls + [("put", 1, 2, 0)]), [1])

    def test_nobody_behind_or_in_another_column_hides(self):
        people = [(60, 1, 1), (250, 2, 1), (250, 1, 0), (250, 0, 0), (250, 0, 2), (250, 1, 2), (250,)]
        calls = standing(60, (0, 0, 200), 3, people)
        self.assertEqual(ask(calls + [("seen", 0), ("hides", 0)])[-2:], [[1], [0]])

    def test_refusals(self):
        calls = standing(10, (0,), 1, [(100,)])
        for name in ("seen", "hides"):
            with self.subTest(name):
                self.assertEqual(last(calls + [(name, 0)]), [-6])
                self.assertEqual(last(calls + [(name, 1)]), [-2])
                self.assertEqual(last(calls + [(name, LARGEST)]), [-2])


class Hides(unittest.TestCase):
    def test_from_the_front_and_not_by_number(self):
        people = [(200, 2, 0), (200, 0, 0), (50, 1, 0), (100, 4, 0), (200, 3, 0)]
        calls = standing(10, (0, 0, 0, 0, 0), 1, people)
        self.assertEqual(last(calls + [("hides", 3)]), [3, 1, 0, 4])
        self.assertEqual(last(calls + [("hides", 2)]), [1, 1])
        self.assertEqual(last(calls + [("hides", 4)]), [2, 1, 0])

    def test_who_is_hidden_hides_too(self):
        calls = standing(10, (0, 0, 0), 1, [(200, 0, 0), (150, 1, 0), (100, 2, 0)])
        self.assertEqual(last(calls + [("hides", 2)]), [2, 0, 1])


class Hidden(unittest.TestCase):
    def test_rising(self):
        people = [(100, 2, 1), (200, 0, 1), (100, 1, 0), (200, 0, 0), (50, 1, 1), (50,), (60, 0, 2)]
        self.assertEqual(last(standing(10, (0, 0, 0), 3, people) + [("hidden",)]), [3, 0, 2, 4])

    def test_who_is_not_placed_is_not_hidden(self):
        self.assertEqual(last(standing(10, (0,), 1, [(50,), (50, 0, 0), (60,)]) + [("hidden",)]), [0])

    def test_nobody(self):
        self.assertEqual(last([("begin", 1, 10, [0]), ("hidden",)]), [0])


class All(unittest.TestCase):
    def test_everybody_is_seen(self):
        self.assertEqual(last(standing(10, (0, 0), 2, [(100, 0, 0), (110, 1, 0), (50, 1, 1)]) + [("all",)]), [1])

    def test_one_is_hidden(self):
        self.assertEqual(last(standing(10, (0, 0), 2, [(100, 0, 0), (109, 1, 0), (50, 1, 1)]) + [("all",)]), [0])

    def test_who_is_not_placed_is_not_seen(self):
        self.assertEqual(last(standing(10, (0,), 2, [(100, 0, 0), (100,)]) + [("all",)]), [0])
        self.assertEqual(last(standing(10, (0,), 2, [(100,)]) + [("all",)]), [0])

    def test_nobody(self):
        self.assertEqual(last([("begin", 1, 10, [0]), ("all",)]), [1])


if __name__ == "__main__":
    unittest.main()
