"""Look, sums and state: point 7."""

import unittest

from tests.helper import ask, last, standing

LARGEST = 4294967295


class Look(unittest.TestCase):
    def test_who_is_placed(self):
        calls = standing(10, (0, 0, 0), 6, [(50, 2, 5), (250, 0, 0), (123, 1, 0)])
        calls += [("look", 0), ("look", 1), ("look", 2)]
        self.assertEqual(ask(calls)[-3:], [[50, 1, 2, 5], [250, 1, 0, 0], [123, 1, 1, 0]])

    def test_who_is_not_placed(self):
        calls = standing(10, (0, 0), 2, [(77,), (88, 1, 1)]) + [("look", 0), ("off", 1), ("look", 1)]
        self.assertEqual(ask(calls)[-3:], [[77, 0, 0, 0], [1, 1], [88, 0, 0, 0]])

    def test_the_height_is_without_the_step(self):
        self.assertEqual(last(standing(10, (200,), 1, [(60, 0, 0)]) + [("look", 0)]), [60, 1, 0, 0])

    def test_it_follows_every_change(self):
        calls = standing(10, (0, 0), 2, [(100, 0, 0), (120, 1, 1)])
        calls += [("put", 0, 1, 0), ("look", 0), ("swap", 0, 1), ("look", 0), ("put", 1, 0, 0), ("look", 1)]
        self.assertEqual(ask(calls)[-5::2], [[100, 1, 1, 0], [100, 1, 1, 1], [120, 1, 0, 0]])

    def test_no_such_person(self):
        calls = standing(10, (0,), 1, [(100,)])
        for p in (1, 20, LARGEST):
            with self.subTest(p):
                self.assertEqual(last(calls + [("look", p)]), [-2])


class Sums(unittest.TestCase):
    def test_nobody(self):
        self.assertEqual(last([("begin", 1, 10, [0]), ("sums",)]), [0, 0, 0, 0, 0, 0])

    def test_each_number(self):
        people = [(100, 0, 0), (100, 1, 0), (100, 0, 1), (110, 1, 1), (60,), (70,), (130, 2, 0)]
        calls = standing(10, (0, 0, 0), 3, people)
        calls += [("wish", 0, 1), ("wish", 4, 5), ("wish", 6, 0), ("apart", 1, 4), ("sums",)]
        self.assertEqual(last(calls), [7, 5, 4, 1, 3, 1])

    def test_a_head_just_as_high_as_has_to_be(self):
        for height, answer in ((109, [2, 2, 1, 1, 0, 0]), (110, [2, 2, 2, 0, 0, 0])):
            with self.subTest(height):
                self.assertEqual(last(standing(10, (0, 0), 1, [(100, 0, 0), (height, 1, 0)]) + [("sums",)]), answer)

    def test_a_step_in_front_that_is_higher_and_two_rows_in_front(self):
        for height, answer in ((159, [2, 2, 1, 1, 0, 0]), (160, [2, 2, 2, 0, 0, 0])):
            calls = standing(10, (50, 0, 0), 1, [(100, 0, 0), (height, 2, 0)])
            with self.subTest(height):
                self.assertEqual(last(calls + [("sums",)]), answer)

    def test_a_wish_told_the_other_way_round_is_one_pair(self):
        calls = standing(10, (0,), 2, [(100, 0, 0), (100, 0, 1), (100,)])
        calls += [("wish", 0, 1), ("wish", 1, 0), ("apart", 2, 0), ("apart", 0, 2), ("sums",), ("forget", 1, 0)]
        calls += [("sums",), ("forget", 0, 2), ("sums",)]
        found = ask(calls)[-5::2]
        self.assertEqual(found, [[3, 2, 2, 0, 1, 1], [3, 2, 2, 0, 0, 1], [3, 2, 2, 0, 0, 0]])

    def test_it_follows_every_change(self):
        calls = standing(10, (0, 0), 2, [(100, 0, 0), (120, 1, 0)])
        calls += [("swap", 0, 1), ("sums",), ("mend", 0), ("sums",), ("off", 0), ("sums",), ("person", 60), ("sums",)]
        found = ask(calls)[-7::2]
        self.assertEqual(found, [[2, 2, 1, 1, 0, 0], [2, 2, 2, 0, 0, 0], [2, 1, 1, 0, 0, 0], [3, 1, 1, 0, 0, 0]])


class State(unittest.TestCase):
    def test_as_it_was_begun(self):
        cases = [(1, 5, [0]), (6, 60, [200, 0, 100, 7, 8]), (3, 10, [0, 20]), (2, 33, [5, 5, 5])]
        for width, face, steps in cases:
            with self.subTest(steps):
                calls = [("begin", width, face, steps), ("state",)]
                self.assertEqual(last(calls), [width, face, len(steps)] + steps)

    def test_it_is_the_last_begin_that_was_not_refused(self):
        calls = [("begin", 2, 5, [1, 2]), ("begin", 7, 6, [3]), ("state",), ("begin", 4, 61, [3]), ("state",)]
        calls += [("begin", 4, 6, [3]), ("state",)]
        self.assertEqual(ask(calls)[2::2], [[2, 5, 2, 1, 2], [2, 5, 2, 1, 2], [4, 6, 1, 3]])

    def test_it_is_told_anew_each_time(self):
        calls = [("begin", 2, 5, [1, 2])] + [("state",)] * 3
        self.assertEqual(ask(calls)[1:], [[2, 5, 2, 1, 2]] * 3)

    def test_people_play_no_part(self):
        calls = standing(10, (0, 20), 2, [(100, 0, 0), (120, 1, 0)]) + [("wish", 0, 1), ("state",)]
        self.assertEqual(last(calls), [2, 10, 2, 0, 20])


if __name__ == "__main__":
    unittest.main()
