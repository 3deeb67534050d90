"""Put, off and swap: point 1, and that nobody stands at two places."""

import unittest

from tests.helper import ask, last, probe, standing

LARGEST = 4294967295


class Put(unittest.TestCase):
    def test_every_place_can_be_taken(self):
        for row in range(3):
            for column in range(4):
                calls = standing(10, (0, 20, 40), 4, [(100,)]) + [("put", 0, row, column), ("off", 0)]
                with self.subTest(row=row, column=column):
                    self.assertEqual(ask(calls)[-2:], [[1], [row, column]])

    def test_it_tells_whether_one_is_seen(self):
        calls = standing(10, (0, 20), 1, [(110, 0, 0), (100,), (99,)])
        self.assertEqual(last(calls + [("put", 1, 1, 0)]), [1])
        self.assertEqual(last(calls + [("put", 2, 1, 0)]), [0])

    def test_one_who_hides_is_seen(self):
        self.assertEqual(last(standing(10, (0, 0), 1, [(60, 1, 0), (200,)]) + [("put", 1, 0, 0)]), [1])

    def test_no_such_person(self):
        calls = standing(10, (0,), 2, [(100, 0, 0)])
        for p in (1, 20, LARGEST):
            with self.subTest(p):
                self.assertEqual(last(calls + [("put", p, 0, 1)]), [-2])

    def test_no_such_place(self):
        calls = standing(10, (0, 0), 3, [(100,)])
        for row, column in ((2, 0), (0, 3), (2, 3), (LARGEST, 0), (0, LARGEST)):
            with self.subTest(row=row, column=column):
                self.assertEqual(last(calls + [("put", 0, row, column)]), [-22])

    def test_somebody_stands_there(self):
        self.assertEqual(last(standing(10, (0,), 2, [(100, 0, 1), (100,)]) + [("put", 1, 0, 1)]), [-16])

    def test_the_place_is_ones_own(self):
        calls = standing(10, (0,), 2, [(100, 0, 1)]) + [("put", 0, 0, 1), ("off", 0)]
        self.assertEqual(ask(calls)[-2:], [[-16], [0, 1]])

    def test_ranks(self):
        calls = standing(10, (0,), 1, [(100, 0, 0)])
        self.assertEqual(last(calls + [("put", 1, 1, 1)]), [-2])
        self.assertEqual(last(calls + [("put", 1, 0, 0)]), [-2])

    def test_who_is_put_elsewhere_stands_there_alone(self):
        calls = standing(10, (0, 0), 2, [(200, 0, 0), (100, 1, 0)])
        calls += [("seen", 1), ("put", 0, 0, 1), ("seen", 1), ("put", 1, 0, 0), ("off", 0), ("off", 0)]
        self.assertEqual(ask(calls)[-6:], [[0], [1], [1], [1], [0, 1], [-6]])


class Off(unittest.TestCase):
    def test_it_tells_the_row_and_then_the_column(self):
        calls = standing(10, (0, 0, 0), 6, [(100, 2, 5), (100, 1, 0)]) + [("off", 0), ("off", 1)]
        self.assertEqual(ask(calls)[-2:], [[2, 5], [1, 0]])

    def test_who_is_off_is_not_placed_and_hides_nobody(self):
        calls = standing(10, (0, 0), 1, [(200, 0, 0), (100, 1, 0)])
        calls += [("hides", 1), ("off", 0), ("hides", 1), ("seen", 0), ("put", 0, 0, 0), ("seen", 1)]
        self.assertEqual(ask(calls)[-6:], [[1, 0], [0, 0], [0], [-6], [1], [0]])

    def test_refusals(self):
        calls = standing(10, (0,), 1, [(100,)])
        self.assertEqual(last(calls + [("off", 0)]), [-6])
        self.assertEqual(last(calls + [("off", 1)]), [-2])
        self.assertEqual(last(calls + [("off", LARGEST)]), [-2])


class Swap(unittest.TestCase):
    def test_both_stand_where_the_other_stood(self):
        calls = standing(10, (0, 0), 3, [(100, 0, 2), (100, 1, 1)]) + [("swap", 0, 1), ("off", 0), ("off", 1)]
        self.assertEqual(ask(calls)[-3:], [[0], [1, 1], [0, 2]])

    def test_who_changes_back_stands_where_they_stood(self):
        people = [(100, 0, 2), (120, 1, 2), (90, 1, 0), (140, 2, 2), (80,)]
        before = standing(10, (0, 30, 10), 3, people)
        for p, q in ((0, 1), (1, 0), (2, 3), (0, 3)):
            for back in (("swap", p, q), ("swap", q, p)):
                changed = before + [("swap", p, q), back]
                with self.subTest(p=p, back=back):
                    self.assertEqual(ask(changed)[len(before):len(changed)], [[0], [0]])
                    found = ask(changed + probe(5, 3))[len(changed):]
                    self.assertEqual(found, ask(before + probe(5, 3))[len(before):])

    def test_seen_follows_the_change(self):
        calls = standing(10, (0, 0), 1, [(100, 0, 0), (150, 1, 0)])
        calls += [("seen", 1), ("swap", 1, 0), ("seen", 0), ("seen", 1)]
        self.assertEqual(ask(calls)[-4:], [[1], [0], [0], [1]])

    def test_refusals_and_their_ranks(self):
        calls = standing(10, (0,), 3, [(100, 0, 0), (100, 0, 1), (100,), (100,)])
        cases = [((0, 4), -2), ((4, 0), -2), ((4, 4), -2), ((2, 4), -2), ((4, 2), -2), ((LARGEST, 0), -2)]
        cases += [((0, 0), -22), ((2, 2), -22), ((0, 2), -6), ((2, 0), -6), ((2, 3), -6), ((0, 1), 0)]
        for pair, answer in cases:
            with self.subTest(pair):
                self.assertEqual(last(calls + [("swap",) + pair]), [answer])


if __name__ == "__main__":
    unittest.main()
