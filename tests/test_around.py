"""Beside, free and good: point 6, and that where it's told to be good one's seen and hides nobody who was seen."""

import itertools
import unittest

from tests.helper import ask, held, last, probe, standing

LARGEST = 4294967295


class Beside(unittest.TestCase):
    def test_on_all_four_sides_and_rising(self):
        people = [(100, 2, 1), (100, 1, 2), (100, 1, 1), (100, 0, 1), (100, 1, 0)]
        self.assertEqual(last(standing(10, (0, 0, 0), 3, people) + [("beside", 2)]), [4, 0, 1, 3, 4])

    def test_each_side_by_itself(self):
        for row in range(5):
            for column in range(5):
                calls = standing(10, (0, 0, 0, 0, 0), 5, [(100, 2, 2), (100,), (100,)])
                if (row, column) != (2, 2):
                    calls.append(("put", 2, row, column))
                near = abs(row - 2) + abs(column - 2) == 1
                with self.subTest(row=row, column=column):
                    self.assertEqual(last(calls + [("beside", 0)]), [1, 2] if near else [0])

    def test_everywhere_on_a_full_board(self):
        """Twenty people on four rows of five: each has who stands one place off, and no one over an edge."""
        places = list(itertools.product(range(4), range(5)))
        calls = standing(10, (0, 0, 0, 0), 5, [(100,) + place for place in places])
        found = ask(calls + [("beside", p) for p in range(20)])[-20:]
        for p, (row, column) in enumerate(places):
            others = [q for q, (r, c) in enumerate(places) if abs(r - row) + abs(c - column) == 1]
            self.assertEqual(found[p], [len(others)] + others)

    def test_nobody_in_the_rows_middle(self):
        people = [(100, 1, 0), (100, 1, 2), (100, 1, 3)]
        calls = standing(10, (0, 0), 4, people) + [("beside", 0), ("beside", 1), ("beside", 2)]
        self.assertEqual(ask(calls)[-3:], [[0], [1, 2], [1, 1]])

    def test_somebody_two_rows_in_front(self):
        calls = standing(10, (0, 0, 0), 1, [(100, 0, 0), (100, 2, 0)]) + [("beside", 0), ("beside", 1)]
        self.assertEqual(ask(calls)[-2:], [[0], [0]])

    def test_a_column_and_a_row_of_one(self):
        self.assertEqual(last(standing(10, (0,), 1, [(100, 0, 0)]) + [("beside", 0)]), [0])

    def test_pairs_heights_and_who_is_seen_play_no_part(self):
        people = [(250, 0, 0), (50, 1, 0), (60, 0, 1), (70,)]
        calls = standing(60, (200, 0), 2, people) + [("apart", 0, 1), ("wish", 1, 2), ("beside", 0), ("beside", 1)]
        self.assertEqual(ask(calls)[-2:], [[2, 1, 2], [1, 0]])

    def test_refusals(self):
        calls = standing(10, (0,), 2, [(100, 0, 0), (100,)])
        for p, answer in ((0, 0), (1, -6), (2, -2), (20, -2), (LARGEST, -2)):
            with self.subTest(p):
                self.assertEqual(last(calls + [("beside", p)]), [answer])


class Free(unittest.TestCase):
    def test_every_place_by_rows(self):
        for rows in range(1, 6):
            for width in range(1, 7):
                told = [number for row in range(rows) for column in range(width) for number in (row, column)]
                with self.subTest(rows=rows, width=width):
                    self.assertEqual(last([("begin", width, 10, [0] * rows), ("free",)]), [rows * width] + told)

    def test_none(self):
        self.assertEqual(last(standing(10, (0, 0), 1, [(100, 1, 0), (100, 0, 0), (100,)]) + [("free",)]), [0])

    def test_nobody_in_the_rows_middle(self):
        people = [(100, 0, 2), (100, 0, 0), (100, 1, 1)]
        calls = standing(10, (0, 0), 3, people) + [("free",)]
        self.assertEqual(last(calls), [3, 0, 1, 1, 0, 1, 2])

    def test_a_place_that_is_taken_and_left(self):
        calls = standing(10, (0,), 3, [(100, 0, 1), (100,)])
        calls += [("free",), ("put", 0, 0, 0), ("free",), ("off", 0), ("free",)]
        self.assertEqual(ask(calls)[-5::2], [[2, 0, 0, 0, 2], [2, 0, 1, 0, 2], [3, 0, 0, 0, 1, 0, 2]])


class Good(unittest.TestCase):
    def good(self, face, steps, width, people, p):
        """What good answers, and that nothing was changed by asking."""
        before = standing(face, steps, width, people)
        after = before + [("good", p)]
        count = len(people)
        self.assertEqual(ask(after + probe(count, width))[len(after):], ask(before + probe(count, width))[len(before):])
        return last(after)

    def test_no_such_person(self):
        calls = standing(10, (0,), 1, [(100, 0, 0)])
        for p in (1, 20, LARGEST):
            with self.subTest(p):
                self.assertEqual(last(calls + [("good", p)]), [-2])

    def test_the_first_place_by_rows(self):
        self.assertEqual(self.good(10, (0, 0), 2, [(100,)], 0), [0, 0])
        self.assertEqual(self.good(10, (0, 0), 2, [(100,), (100, 0, 0)], 0), [0, 1])
        # Row 0 is full; in row 1 the first column is hidden by who stands in front.
        self.assertEqual(self.good(10, (0, 0), 2, [(100,), (95, 0, 0), (90, 0, 1)], 0), [1, 1])
        self.assertEqual(self.good(10, (0, 0), 2, [(100,), (90, 0, 0), (90, 0, 1)], 0), [1, 0])
        # By rows and not by columns: (1, 0) is good as well.
        self.assertEqual(self.good(10, (0, 0), 3, [(120,), (100, 0, 0), (100, 0, 1)], 0), [0, 2])

    def test_a_place_that_is_ones_own(self):
        self.assertEqual(self.good(10, (0,), 1, [(100, 0, 0)], 0), [0, 0])
        self.assertEqual(self.good(10, (0, 0), 1, [(100, 0, 0), (110, 1, 0)], 1), [1, 0])
        # Free for oneself alone.
        self.assertEqual(self.good(10, (0, 0), 1, [(100, 0, 0), (110, 1, 0), (130,)], 2), [-33])

    def test_an_earlier_place_comes_ahead_of_ones_own(self):
        self.assertEqual(self.good(10, (0, 0), 2, [(100, 1, 1)], 0), [0, 0])

    def test_one_is_not_hidden_by_oneself(self):
        # At the back 0 would be hidden by a head as theirs, in front where they stand now.
        self.assertEqual(self.good(10, (0, 0, 0), 1, [(150, 0, 0), (100, 1, 0)], 0), [2, 0])

    def test_there_is_none(self):
        self.assertEqual(self.good(10, (0,), 2, [(100, 0, 0), (100, 0, 1), (100,)], 2), [-33])
        self.assertEqual(self.good(10, (0, 0), 1, [(100, 0, 0), (109,)], 1), [-33])
        self.assertEqual(self.good(10, (0, 0), 1, [(100, 1, 0), (91,)], 1), [-33])

    def test_a_head_just_as_high_as_has_to_be(self):
        self.assertEqual(self.good(10, (0, 0), 1, [(100, 0, 0), (110,)], 1), [1, 0])
        self.assertEqual(self.good(10, (0, 0), 1, [(100, 0, 0), (109,)], 1), [-33])
        self.assertEqual(self.good(10, (0, 0), 1, [(100, 1, 0), (90,)], 1), [0, 0])
        self.assertEqual(self.good(10, (0, 0), 1, [(100, 1, 0), (91,)], 1), [-33])

    def test_a_step_in_front_that_is_higher(self):
        self.assertEqual(self.good(10, (50, 0), 1, [(100, 0, 0), (160,)], 1), [1, 0])
        self.assertEqual(self.good(10, (50, 0), 1, [(100, 0, 0), (159,)], 1), [-33])
        self.assertEqual(self.good(10, (50, 0), 1, [(160, 1, 0), (100,)], 1), [0, 0])
        self.assertEqual(self.good(10, (50, 0), 1, [(159, 1, 0), (100,)], 1), [-33])

    def test_somebody_two_rows_in_front_or_behind(self):
        # Who stands between hides nobody and can't be seen anyway; the other is two rows off.
        self.assertEqual(self.good(10, (0, 0, 0), 1, [(150, 0, 0), (50, 1, 0), (160,)], 2), [2, 0])
        self.assertEqual(self.good(10, (0, 0, 0), 1, [(150, 0, 0), (50, 1, 0), (159,)], 2), [-33])
        people = [(100, 0, 0), (50, 2, 0), (120, 3, 0)]
        self.assertEqual(self.good(10, (0, 0, 0, 0), 1, people + [(110,)], 3), [1, 0])
        self.assertEqual(self.good(10, (0, 0, 0, 0), 1, people + [(115,)], 3), [-33])
        self.assertEqual(self.good(10, (0, 0, 0), 1, [(100, 2, 0), (95,)], 1), [-33])
        self.assertEqual(self.good(10, (0, 0, 0), 1, [(100, 2, 0), (90,)], 1), [0, 0])

    def test_two_as_tall(self):
        self.assertEqual(self.good(10, (0, 10), 1, [(100, 0, 0), (100,)], 1), [1, 0])
        self.assertEqual(self.good(10, (0, 9), 1, [(100, 0, 0), (100,)], 1), [-33])
        self.assertEqual(self.good(10, (0, 10), 1, [(100, 1, 0), (100,)], 1), [0, 0])
        self.assertEqual(self.good(10, (0, 9), 1, [(100, 1, 0), (100,)], 1), [-33])

    def test_who_is_hidden_by_somebody_else_can_be_hidden_once_more(self):
        # 1 is hidden by 0 anyway; 2 stands between them, seen.
        self.assertEqual(self.good(10, (0, 0, 0), 1, [(100, 0, 0), (50, 2, 0), (150,)], 2), [1, 0])
        # In front of both they'd hide 0, who is seen.
        self.assertEqual(self.good(10, (0, 0, 0), 1, [(100, 1, 0), (50, 2, 0), (95,)], 2), [-33])

    def test_whom_one_hides_now_is_seen_without_them(self):
        # 0 hides 1 as they stand: their own place isn't good, and behind 1 they are seen.
        self.assertEqual(self.good(10, (0, 0, 0), 1, [(150, 0, 0), (100, 1, 0)], 0), [2, 0])
        self.assertEqual(self.good(10, (0, 0), 2, [(150, 0, 0), (100, 1, 0)], 0), [0, 1])
        # 1 is hidden by 2 as well, so that 0 may stay.
        self.assertEqual(self.good(10, (0, 0, 0), 1, [(100, 0, 0), (60, 2, 0), (140, 1, 0)], 0), [0, 0])

    def test_who_is_hidden_only_by_oneself_two_rows_in_front(self):
        self.assertEqual(self.good(10, (0, 0, 0), 1, [(150, 0, 0), (50, 1, 0), (100, 2, 0)], 0), [-33])

    def test_other_columns_play_no_part(self):
        people = [(100,), (250, 0, 0), (50, 1, 0), (250, 0, 2), (50, 1, 2)]
        self.assertEqual(self.good(10, (0, 0), 3, people, 0), [0, 1])

    def test_a_column_of_one(self):
        self.assertEqual(self.good(60, (200, 0), 1, [(250, 1, 0)], 0), [0, 0])

    def test_put_there_one_is_seen_and_hides_nobody_who_was_seen(self):
        """Over every choice of three heights and places: seen there, and who was seen is seen."""
        places = list(itertools.product(range(3), range(2)))
        for heights in itertools.product((90, 100, 115), repeat=3):
            for one, other in itertools.permutations(places, 2):
                people = [(heights[0],) + one, (heights[1],) + other, (heights[2],)]
                calls = standing(10, (0, 20, 5), 2, people)
                found = {}
                for place in places:
                    if place not in (one, other):
                        tried = calls + [("put", 2) + place]
                        was_seen = [p for p in (0, 1) if last(calls + [("seen", p)]) == [1]]
                        found[place] = all(last(tried + [("seen", p)]) == [1] for p in was_seen + [2])
                good = [place for place in places if found.get(place)]
                self.assertEqual(last(calls + [("good", 2)]), list(good[0]) if good else [-33], people)

    def test_where_one_stands_while_it_is_asked_makes_no_difference(self):
        for height in range(80, 150, 3):
            calls = standing(10, (0, 15, 30), 2, [(100, 0, 1), (110, 1, 0), (95, 2, 1), (height,)])
            told = last(calls + [("good", 3)])
            for row, column in ((0, 0), (1, 1), (2, 0)):
                with self.subTest(height=height, row=row):
                    self.assertEqual(last(calls + [("put", 3, row, column), ("good", 3)]), told)
                    self.assertEqual(held(calls + [("put", 3, row, column), ("good", 3)], 4)[3], (row, column))


if __name__ == "__main__":
    unittest.main()
