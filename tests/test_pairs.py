"""Wish, apart, forget and met: point 2."""

import unittest

from tests.helper import ask, last, standing

LARGEST = 4294967295
FOUR = [(100,)] * 4


class Tell(unittest.TestCase):
    def test_how_many_such_pairs(self):
        calls = standing(10, (0,), 1, FOUR)
        calls += [("wish", 0, 1), ("apart", 0, 2), ("wish", 3, 1), ("apart", 3, 2), ("wish", 2, 1)]
        self.assertEqual(ask(calls)[-5:], [[1], [1], [2], [2], [3]])

    def test_told_already(self):
        for name, other in (("wish", "apart"), ("apart", "wish")):
            calls = standing(10, (0,), 1, FOUR) + [(name, 2, 1)]
            with self.subTest(name):
                self.assertEqual(last(calls + [(name, 2, 1)]), [-17])
                self.assertEqual(last(calls + [(name, 1, 2)]), [-17])
                self.assertEqual(last(calls + [(other, 2, 1)]), [-16])
                self.assertEqual(last(calls + [(other, 1, 2)]), [-16])

    def test_refusals_and_their_ranks(self):
        calls = standing(10, (0,), 1, FOUR)
        cases = [((0, 4), -2), ((4, 0), -2), ((4, 4), -2), ((LARGEST, LARGEST), -2), ((0, 0), -22), ((3, 3), -22)]
        for name in ("wish", "apart", "forget"):
            for pair, answer in cases:
                with self.subTest(name=name, pair=pair):
                    self.assertEqual(last(calls + [(name,) + pair]), [answer])

    def test_nobody_need_be_placed(self):
        calls = standing(10, (0,), 2, [(100, 0, 0), (100,)])
        self.assertEqual(last(calls + [("wish", 0, 1)]), [1])
        self.assertEqual(last(calls + [("apart", 0, 1)]), [1])

    def test_every_pair_of_twenty(self):
        pairs = [(p, q) for p in range(20) for q in range(p)]
        calls = standing(10, (0,), 1, [(100,)] * 20) + [("wish",) + pair for pair in pairs] + [("met",)]
        self.assertEqual(ask(calls)[21:], [[k + 1] for k in range(190)] + [[0, 190, 0, 0, 0]])


class Forget(unittest.TestCase):
    def test_neither_is_told(self):
        calls = standing(10, (0,), 1, FOUR) + [("wish", 0, 1), ("apart", 1, 2)]
        self.assertEqual(last(calls + [("forget", 0, 2)]), [-6])

    def test_nothing_is_told_of_them_any_more(self):
        for name in ("wish", "apart"):
            for pair in ((0, 1), (1, 0)):
                calls = standing(10, (0,), 1, FOUR) + [(name, 0, 1), ("forget",) + pair]
                with self.subTest(name=name, pair=pair):
                    self.assertEqual(last(calls), [0])
                    self.assertEqual(last(calls + [("forget", 0, 1)]), [-6])
                    self.assertEqual(last(calls + [("wish", 0, 1)]), [1])
                    self.assertEqual(last(calls + [("apart", 0, 1)]), [1])
                    self.assertEqual(last(calls + [("met",)]), [0, 0, 0, 0, 0])

    def test_other_pairs_stay(self):
        calls = standing(10, (0,), 1, FOUR) + [("wish", 0, 1), ("wish", 1, 2), ("apart", 0, 2), ("forget", 1, 0)]
        self.assertEqual(last(calls + [("wish", 2, 1)]), [-17])
        self.assertEqual(last(calls + [("apart", 2, 0)]), [-17])
        self.assertEqual(last(calls + [("wish", 0, 3)]), [2])


class Met(unittest.TestCase):
    def test_no_pair(self):
        self.assertEqual(last(standing(10, (0,), 1, FOUR) + [("met",)]), [0, 0, 0, 0, 0])

    def test_two_everywhere(self):
        """Near is met beside alone; apart is met wherever one is neither beside nor right before or behind."""
        places = [(row, column) for row in range(3) for column in range(3)]
        for one in places:
            for other in [place for place in places if place != one]:
                down = abs(one[0] - other[0])
                along = abs(one[1] - other[1])
                beside = int((down, along) == (0, 1))
                clear = int((down, along) not in ((0, 1), (1, 0)))
                calls = standing(10, (0, 0, 0), 3, [(100,) + one, (100,) + other])
                with self.subTest(one=one, other=other):
                    self.assertEqual(last(calls + [("wish", 0, 1), ("met",)]), [beside, 1, beside, 0, 0])
                    self.assertEqual(last(calls + [("apart", 1, 0), ("met",)]), [clear, 0, 0, 1, clear])

    def test_a_row_between_them_with_nobody(self):
        calls = standing(10, (0, 0, 0), 1, [(100, 0, 0), (100, 2, 0), (100,)]) + [("apart", 0, 1), ("met",)]
        self.assertEqual(last(calls), [1, 0, 0, 1, 1])

    def test_the_end_of_a_row_is_not_beside_the_next_rows_beginning(self):
        calls = standing(10, (0, 0), 2, [(100, 0, 1), (100, 1, 0)])
        self.assertEqual(last(calls + [("wish", 0, 1), ("met",)]), [0, 1, 0, 0, 0])
        self.assertEqual(last(calls + [("apart", 0, 1), ("met",)]), [1, 0, 0, 1, 1])

    def test_who_is_not_placed_stands_nowhere(self):
        for people in ([(100,), (100,)], [(100, 0, 0), (100,)], [(100,), (100, 0, 0)]):
            calls = standing(10, (0, 0), 2, people)
            with self.subTest(people):
                self.assertEqual(last(calls + [("wish", 0, 1), ("met",)]), [0, 1, 0, 0, 0])
                self.assertEqual(last(calls + [("apart", 0, 1), ("met",)]), [1, 0, 0, 1, 1])

    def test_all_four_counts(self):
        people = [(100, 0, 0), (100, 0, 1), (100, 0, 2), (100, 1, 0), (100,), (100, 1, 2)]
        calls = standing(10, (0, 0), 3, people)
        calls += [("wish", 1, 0), ("wish", 1, 2), ("wish", 0, 3), ("wish", 4, 0), ("wish", 3, 5)]
        calls += [("apart", 2, 5), ("apart", 0, 2), ("apart", 4, 5), ("apart", 0, 5), ("met",)]
        self.assertEqual(last(calls), [5, 5, 2, 4, 3])

    def test_it_follows_who_moves(self):
        calls = standing(10, (0, 0), 3, [(100, 0, 0), (100, 0, 2), (100, 0, 1)]) + [("wish", 0, 1), ("apart", 0, 2)]
        calls += [("met",), ("swap", 1, 2), ("met",), ("off", 1), ("met",)]
        expected = [[0, 1, 0, 1, 0], [0], [2, 1, 1, 1, 1], [0, 1], [1, 1, 0, 1, 1]]
        self.assertEqual(ask(calls)[-5:], expected)


if __name__ == "__main__":
    unittest.main()
