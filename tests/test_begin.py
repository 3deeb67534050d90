"""Begin and person: point 1, and what holds before a begin."""

import unittest

from tests.helper import NAMES, ask, last

LARGEST = 4294967295
ARGUMENTS = {
    "person": (100,), "put": (0, 0, 0), "off": (0,), "swap": (0, 1), "wish": (0, 1), "apart": (0, 1),
    "forget": (0, 1), "seen": (0,), "hidden": (), "hides": (0,), "all": (), "met": (), "column": (0,), "mend": (0,),
    "row": (0,), "hill": (0,), "shape": (0,), "form": (0,), "please": (0,), "seat": (0,), "beside": (0,),
    "spare": (0,), "free": (), "good": (0,), "look": (0,), "sums": (), "state": (),
}


class NotBegun(unittest.TestCase):
    def test_every_other_call_is_refused(self):
        for name in NAMES[1:]:
            with self.subTest(name):
                self.assertEqual(ask([(name,) + ARGUMENTS[name]]), [[-11]])

    def test_every_other_call_is_passed_over_by_its_own_length(self):
        for name in NAMES[1:]:
            calls = [(name,) + ARGUMENTS[name], ("begin", 1, 5, [0]), ("person", 50)]
            with self.subTest(name):
                self.assertEqual(ask(calls), [[-11], [0], [0]])

    def test_a_refused_begin_begins_nothing(self):
        for name in NAMES[1:]:
            with self.subTest(name):
                self.assertEqual(ask([("begin", 0, 10, [0]), (name,) + ARGUMENTS[name]]), [[-22], [-11]])

    def test_it_comes_ahead_of_every_other_refusal(self):
        for name in NAMES[1:]:
            for number in (0, 99, LARGEST):
                with self.subTest(name, number=number):
                    self.assertEqual(ask([(name,) + (number,) * len(ARGUMENTS[name])]), [[-11]])

    def test_what_was_refused_is_not_there_afterwards(self):
        calls = [("person", 100), ("begin", 1, 5, [0]), ("seen", 0), ("person", 100)]
        self.assertEqual(ask(calls), [[-11], [0], [-2], [0]])


class Begin(unittest.TestCase):
    def test_places(self):
        for width, answer in ((0, -22), (1, 0), (6, 0), (7, -22), (LARGEST, -22)):
            with self.subTest(width):
                self.assertEqual(last([("begin", width, 10, [0])]), [answer])

    def test_face(self):
        for face, answer in ((0, -22), (4, -22), (5, 0), (60, 0), (61, -22), (LARGEST, -22)):
            with self.subTest(face):
                self.assertEqual(last([("begin", 3, face, [0])]), [answer])

    def test_how_many_steps(self):
        for count, answer in ((0, -22), (1, 0), (5, 0), (6, -22), (8, -22)):
            with self.subTest(count):
                self.assertEqual(last([("begin", 3, 10, [20] * count)]), [answer])

    def test_how_high_each_step_is(self):
        for step, answer in ((0, 0), (200, 0), (201, -22), (LARGEST, -22)):
            for at in range(5):
                steps = [7] * 5
                steps[at] = step
                with self.subTest(steps):
                    self.assertEqual(last([("begin", 3, 10, steps)]), [answer])

    def test_steps_in_any_order(self):
        self.assertEqual(last([("begin", 3, 10, [200, 0, 100, 100, 5])]), [0])

    def test_there_are_as_many_rows_and_columns_as_told(self):
        for rows in range(1, 6):
            for width in range(1, 7):
                calls = [("begin", width, 10, [0] * rows), ("person", 100)]
                calls.append(("put", 0, rows - 1, width - 1))
                calls.append(("put", 0, rows, 0))
                calls.append(("put", 0, 0, width))
                with self.subTest(rows=rows, width=width):
                    self.assertEqual(ask(calls)[2:], [[1], [-22], [-22]])

    def test_a_later_begin_leaves_nobody_and_no_pair(self):
        calls = [("begin", 2, 5, [0, 0]), ("person", 100), ("person", 100), ("put", 0, 0, 0), ("wish", 0, 1)]
        calls += [("begin", 1, 60, [200]), ("seen", 0), ("met",), ("hidden",), ("all",), ("column", 1), ("column", 0)]
        calls += [("person", 60), ("seen", 0), ("put", 0, 1, 0), ("put", 0, 0, 0), ("person", 60), ("wish", 0, 1)]
        expected = [[0], [-2], [0, 0, 0, 0, 0], [0], [1], [-22], [0]]
        expected += [[0], [-6], [-22], [1], [1], [1]]
        self.assertEqual(ask(calls)[5:], expected)

    def test_a_later_refused_begin_changes_nothing(self):
        refused = [("begin", 0, 10, [0]), ("begin", 3, 4, [0]), ("begin", 3, 10, []), ("begin", 3, 10, [0, 201])]
        calls = [("begin", 2, 5, [0, 10]), ("person", 100), ("person", 100), ("put", 0, 0, 1), ("put", 1, 1, 1)]
        calls += [("wish", 0, 1)] + refused
        calls += [("seen", 1), ("met",), ("put", 0, 1, 0), ("put", 0, 2, 0), ("put", 0, 0, 2), ("person", 50)]
        self.assertEqual(ask(calls)[6:], [[-22]] * 4 + [[1], [0, 1, 0, 0, 0], [1], [-22], [-22], [2]])

    def test_the_face_is_the_one_of_the_last_begin(self):
        people = [("person", 100), ("person", 120), ("put", 0, 0, 0), ("put", 1, 1, 0)]
        calls = [("begin", 1, 20, [0, 0])] + people + [("begin", 1, 21, [0, 0])] + people
        self.assertEqual(ask(calls), [[0], [0], [1], [1], [1], [0], [0], [1], [1], [0]])


class Person(unittest.TestCase):
    def test_height(self):
        for height, answer in ((0, -22), (49, -22), (50, 0), (250, 0), (251, -22), (LARGEST, -22)):
            with self.subTest(height):
                self.assertEqual(last([("begin", 3, 10, [0]), ("person", height)]), [answer])

    def test_numbers_come_one_after_the_other(self):
        calls = [("begin", 3, 10, [0]), ("person", 50), ("person", 49), ("person", 250), ("person", 50)]
        self.assertEqual(ask(calls), [[0], [0], [-22], [1], [2]])

    def test_one_more_is_not_placed(self):
        self.assertEqual(last([("begin", 3, 10, [0]), ("person", 50), ("seen", 0)]), [-6])

    def test_twenty_and_no_more(self):
        calls = [("begin", 3, 10, [0])] + [("person", 100)] * 21 + [("seen", 19), ("seen", 20)]
        self.assertEqual(ask(calls)[1:], [[k] for k in range(20)] + [[-28], [-6], [-2]])

    def test_too_many_comes_ahead_of_out_of_range(self):
        calls = [("begin", 3, 10, [0])] + [("person", 100)] * 20 + [("person", 49), ("person", 251)]
        self.assertEqual(ask(calls)[-2:], [[-28], [-28]])


if __name__ == "__main__":
    unittest.main()
