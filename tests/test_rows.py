"""Row, hill, shape and form: point 5, and that formed a row rises and falls with as few moved as can be."""

import itertools
import unittest

from tests.helper import ask, held, last, probe, standing

LARGEST = 4294967295


def in_one_row(width, people):
    """The calls by which these people stand in row 1 of three: (height, column)."""
    return standing(10, (0, 50, 20), width, [(height, 1, column) for height, column in people])


def by_columns(heights):
    """People for in_one_row, numbered by columns; None where nobody stands."""
    return [(height, column) for column, height in enumerate(heights) if height is not None]


def hill_of(heights):
    return last(in_one_row(len(heights), by_columns(heights)) + [("hill", 1)])


def shape_of(width, people):
    return last(in_one_row(width, people) + [("shape", 1)])


def formed(width, people):
    """What form answers for these people in one row, and in which columns they stand then."""
    calls = in_one_row(width, people) + [("form", 1)]
    places = held(calls, len(people))
    return last(calls), [place[1] for place in places if place[0] == 1]


class Refused(unittest.TestCase):
    def test_no_such_row(self):
        people = [(100, 2, 0), (90, 2, 1), (110, 2, 2)]
        calls = standing(10, (0, 0, 0), 3, people)
        answered = {"row": [3, 1, 2, 3], "hill": [0], "shape": [2, 0, 2, 1], "form": [2]}
        for name, answer in answered.items():
            for row, expected in ((2, answer), (3, [-22]), (5, [-22]), (LARGEST, [-22])):
                with self.subTest(name, row=row):
                    self.assertEqual(last(calls + [(name, row)]), expected)

    def test_rows_are_not_counted_by_columns(self):
        for name in ("row", "hill", "shape", "form"):
            with self.subTest(name):
                self.assertEqual(last([("begin", 6, 10, [0]), (name, 1)]), [-22])
                self.assertNotEqual(last([("begin", 1, 10, [0, 0, 0]), (name, 2)]), [-22])

    def test_a_refused_form_changes_nothing(self):
        before = in_one_row(3, by_columns((110, 100, 105)))
        after = before + [("form", 3)]
        self.assertEqual(ask(after + probe(3, 3))[len(after):], ask(before + probe(3, 3))[len(before):])


class Row(unittest.TestCase):
    def test_who_and_one_of_each_column(self):
        calls = in_one_row(4, [(100, 3), (100, 0), (100, 1), (100, 2)]) + [("row", 1)]
        self.assertEqual(last(calls), [4, 2, 3, 4, 1])

    def test_nobody_in_its_middle(self):
        self.assertEqual(last(in_one_row(5, [(100, 4), (100, 0)]) + [("row", 1)]), [2, 2, 0, 0, 0, 1])

    def test_nobody(self):
        for width in range(1, 7):
            with self.subTest(width):
                self.assertEqual(last([("begin", width, 10, [0]), ("row", 0)]), [0] + [0] * width)

    def test_one_alone(self):
        for column in range(3):
            told = [0, 0, 0]
            told[column] = 1
            with self.subTest(column):
                self.assertEqual(last(in_one_row(3, [(100, column)]) + [("row", 1)]), [1] + told)

    def test_other_rows_and_who_is_not_placed_are_not_in_it(self):
        calls = standing(10, (0, 0, 0), 2, [(100, 0, 0), (100,), (100, 1, 0), (100, 2, 1)])
        calls += [("row", 0), ("row", 1), ("row", 2)]
        self.assertEqual(ask(calls)[-3:], [[1, 1, 0], [1, 3, 0], [1, 0, 4]])

    def test_it_follows_every_change(self):
        calls = in_one_row(3, [(100, 0), (100, 1)])
        calls += [("swap", 0, 1), ("row", 1), ("put", 0, 1, 2), ("row", 1), ("off", 1), ("row", 1)]
        self.assertEqual(ask(calls)[-5::2], [[2, 2, 1, 0], [2, 2, 0, 1], [1, 0, 0, 1]])


class Hill(unittest.TestCase):
    def test_nobody_and_one_alone(self):
        self.assertEqual(hill_of((None, None)), [1])
        self.assertEqual(hill_of((None, 100)), [1])
        self.assertEqual(hill_of((100,)), [1])

    def test_two_are_always_one(self):
        for heights in ((100, 110), (110, 100), (100, 100)):
            with self.subTest(heights):
                self.assertEqual(hill_of(heights), [1])

    def test_hills(self):
        for heights in ((100, 110, 105), (100, 101, 102), (102, 101, 100), (50, 60, 250, 249, 51, 50)):
            with self.subTest(heights):
                self.assertEqual(hill_of(heights), [1])

    def test_no_hills(self):
        for heights in ((110, 100, 105), (101, 100, 101), (90, 100, 99, 100), (50, 60, 70, 69, 68, 69)):
            with self.subTest(heights):
                self.assertEqual(hill_of(heights), [0])

    def test_a_hill_that_is_level(self):
        level = [(100, 100, 100), (100,) * 6, (90, 100, 100, 90), (100, 100, 90), (90, 90, 100)]
        for heights in level + [(90, 95, 95, 99), (99, 95, 95, 90)]:
            with self.subTest(heights):
                self.assertEqual(hill_of(heights), [1])

    def test_two_as_tall_in_a_dale(self):
        for heights in ((100, 90, 90, 100), (100, 90, 90, 91), (91, 90, 90, 100), (100, 90, 100, 90)):
            with self.subTest(heights):
                self.assertEqual(hill_of(heights), [0])

    def test_nobody_in_its_middle(self):
        self.assertEqual(hill_of((100, None, 110, None, 105)), [1])
        self.assertEqual(hill_of((110, None, 100, None, 105)), [0])
        self.assertEqual(hill_of((100, None, 100)), [1])

    def test_every_six_of_three_heights(self):
        for heights in itertools.product((90, 100, 110), repeat=6):
            tops = [top for top in range(6) if list(heights[:top + 1]) == sorted(heights[:top + 1])
                    and list(heights[top:]) == sorted(heights[top:], reverse=True)]
            self.assertEqual(hill_of(heights), [1 if tops else 0], heights)

    def test_steps_and_other_rows_play_no_part(self):
        people = [(100, 0, 0), (90, 1, 1), (110, 0, 1), (105, 0, 2), (250, 1, 0), (250, 1, 2)]
        calls = standing(10, (0, 200), 3, people) + [("hill", 0), ("hill", 1)]
        self.assertEqual(ask(calls)[-2:], [[1], [0]])


class Shape(unittest.TestCase):
    def test_nobody_and_one_alone(self):
        self.assertEqual(shape_of(3, []), [0])
        self.assertEqual(shape_of(3, [(100, 2)]), [0, 0])

    def test_nobody_is_moved_where_it_is_a_hill(self):
        self.assertEqual(shape_of(4, [(100, 3), (110, 1), (120, 2), (90, 0)]), [0, 3, 1, 2, 0])

    def test_the_first_of_those_with_as_few_moved(self):
        # 1 0 2 is a hill too and moves as few.
        self.assertEqual(shape_of(3, by_columns((100, 90, 110))), [2, 0, 2, 1])
        # By numbers and not by where they stand: 2 0 1 moves two as well.
        self.assertEqual(shape_of(3, [(110, 2), (90, 1), (100, 0)]), [2, 1, 2, 0])

    def test_fewest_moved_comes_ahead_of_the_first(self):
        # 0 1 2 3 would be a hill, but moves all.
        self.assertEqual(shape_of(4, [(100, 1), (110, 0), (120, 3), (130, 2)]), [2, 0, 1, 3, 2])
        self.assertEqual(shape_of(3, [(100, 2), (100, 1), (100, 0)]), [0, 2, 1, 0])

    def test_two_as_tall(self):
        # Either of both as tall might change with 2; the order that begins with the lesser is taken.
        self.assertEqual(shape_of(3, [(100, 0), (100, 2), (90, 1)]), [2, 0, 1, 2])
        self.assertEqual(shape_of(3, [(100, 2), (100, 0), (90, 1)]), [2, 1, 0, 2])

    def test_a_hill_that_is_level(self):
        self.assertEqual(shape_of(6, [(100, 5 - p) for p in range(6)]), [0, 5, 4, 3, 2, 1, 0])
        self.assertEqual(shape_of(4, by_columns((100, 110, 110, 90))), [0, 0, 1, 2, 3])

    def test_nobody_in_its_middle(self):
        people = [(100, 0), (90, 2), (110, 5)]
        self.assertEqual(shape_of(6, people), [2, 0, 2, 1])

    def test_more_than_two_have_to_move(self):
        # The lowest has to come to an end; by changing with who stands there it would be no hill.
        self.assertEqual(shape_of(5, by_columns((60, 80, 50, 90, 70))), [3, 0, 1, 3, 4, 2])
        self.assertEqual(shape_of(5, by_columns((80, 50, 60, 70, 90))), [4, 0, 4, 3, 2, 1])

    def test_it_changes_nothing(self):
        calls = in_one_row(3, by_columns((110, 100, 105))) + [("shape", 1), ("row", 1), ("shape", 1), ("hill", 1)]
        self.assertEqual(ask(calls)[-4:], [[2, 0, 2, 1], [3, 1, 2, 3], [2, 0, 2, 1], [0]])

    def test_other_rows_play_no_part(self):
        people = [(110, 0, 0), (100, 0, 1), (105, 0, 2), (50, 1, 0), (60, 1, 1), (70, 1, 2), (250,)]
        calls = standing(10, (0, 0), 3, people) + [("shape", 0), ("shape", 1)]
        self.assertEqual(ask(calls)[-2:], [[2, 0, 2, 1], [0, 3, 4, 5]])

    def test_every_row_of_five(self):
        """Against every order, with fewest moved, then the first one, found by sorting."""
        for heights in itertools.permutations((60, 70, 70, 80, 90)):
            numbers = (3, 0, 4, 1, 2)
            people = [(heights[p], numbers[p]) for p in range(5)]
            now = [numbers.index(column) for column in range(5)]
            ranked = []
            for order in itertools.permutations(range(5)):
                top = max(range(5), key=lambda k: heights[order[k]])
                line = [heights[p] for p in order]
                if line[:top] == sorted(line[:top]) and line[top:] == sorted(line[top:], reverse=True):
                    ranked.append([sum(a != b for a, b in zip(now, order))] + list(order))
            self.assertEqual(shape_of(5, people), sorted(ranked)[0], heights)


class Form(unittest.TestCase):
    def test_nobody_and_one_alone(self):
        self.assertEqual(formed(3, []), ([0], []))
        self.assertEqual(formed(3, [(100, 2)]), ([0], [2]))

    def test_nobody_is_moved_where_it_is_a_hill(self):
        self.assertEqual(formed(4, [(100, 3), (110, 1), (120, 2), (90, 0)]), ([0], [3, 1, 2, 0]))

    def test_they_stand_so(self):
        self.assertEqual(formed(3, by_columns((100, 90, 110))), ([2], [0, 2, 1]))
        self.assertEqual(formed(3, [(110, 2), (90, 1), (100, 0)]), ([2], [2, 0, 1]))
        self.assertEqual(formed(5, by_columns((60, 80, 50, 90, 70))), ([3], [0, 1, 4, 2, 3]))

    def test_two_as_tall(self):
        self.assertEqual(formed(3, [(100, 2), (100, 0), (90, 1)]), ([2], [1, 0, 2]))

    def test_a_hill_that_is_level(self):
        self.assertEqual(formed(6, [(100, 5 - p) for p in range(6)]), ([0], [5, 4, 3, 2, 1, 0]))

    def test_nobody_in_its_middle(self):
        # The empty places stay empty.
        self.assertEqual(formed(6, [(100, 0), (90, 2), (110, 5)]), ([2], [0, 5, 2]))

    def test_nobody_else_stands_elsewhere(self):
        people = [(110, 1, 0), (100, 1, 1), (105, 1, 2), (250, 0, 0), (50, 0, 1), (250, 0, 2), (60, 2, 1), (70,)]
        calls = standing(10, (0, 0, 0), 3, people) + [("form", 1)]
        self.assertEqual(last(calls), [2])
        places = [(1, 0), (1, 2), (1, 1), (0, 0), (0, 1), (0, 2), (2, 1), None]
        self.assertEqual(held(calls, 8), places)

    def test_every_row_of_five(self):
        """It answers what shape tells, they stand so, and it is a hill."""
        for heights in itertools.permutations((60, 70, 70, 80, 90)):
            people = list(zip(heights, (5, 0, 4, 1, 2)))
            calls = in_one_row(6, people)
            told = last(calls + [("shape", 1)])
            calls.append(("form", 1))
            self.assertEqual(last(calls), told[:1])
            places = held(calls, 5)
            self.assertEqual([places[p] for p in told[1:]], [(1, column) for column in (0, 1, 2, 4, 5)])
            self.assertEqual(ask(calls + [("hill", 1), ("shape", 1)])[-2:], [[1], [0] + told[1:]])


if __name__ == "__main__":
    unittest.main()
