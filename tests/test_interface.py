"""How calls lie in the list, what is given back, and that nothing handed in is changed or kept."""

import contextlib
import io
import unittest

import standrows.photo
from standrows.photo import answers
from tests.helper import NAMES, ask, flat, last, standing

EVERY_CALL = standing(10, (0, 30, 10), 2, [(100, 0, 0), (120, 1, 0), (90, 2, 0), (80,), (70, 0, 1)]) + [
    ("wish", 0, 3), ("apart", 1, 2), ("swap", 0, 1), ("seen", 2), ("hidden",), ("hides", 2), ("all",), ("met",),
    ("column", 0), ("column", 1), ("mend", 0), ("mend", 1), ("mend", 2), ("row", 0), ("hill", 0), ("shape", 0),
    ("form", 0), ("please", 0), ("seat", 0), ("seat", 3), ("beside", 0), ("spare", 0), ("spare", 1), ("spare", 2),
    ("free",), ("good", 0), ("good", 3), ("look", 0), ("look", 3), ("look", 5), ("sums",), ("state",),
    ("forget", 0, 3), ("off", 2), ("off", 2), ("person", 10), ("begin", 9, 9, []), ("state",),
]


class Watched(list):
    """A list that fails when it is changed, be it for a while."""

    def refuse(self, *arguments, **named):
        raise AssertionError("what is handed in is changed")

    __setitem__ = __delitem__ = __iadd__ = __imul__ = refuse
    append = clear = extend = insert = pop = remove = reverse = sort = refuse


class Interface(unittest.TestCase):
    def test_the_numbers_as_they_lie(self):
        calls = [0, 2, 10, 2, 0, 20]
        calls += [1, 100, 1, 105, 1, 60]
        calls += [2, 0, 0, 1, 2, 1, 1, 1, 2, 2, 1, 0]
        calls += [4, 0, 1, 5, 0, 2, 6, 1, 0, 7, 0, 2, 8, 0, 9, 10, 0, 11, 12, 13, 1, 3, 2]
        expected = [1, 0]
        expected += [1, 0, 1, 1, 1, 2]
        expected += [1, 1, 1, 1, 1, 1]
        expected += [1, 0, 1, 1, 1, 1, 1, 0, 1, 1, 1, 0, 1, 0, 1, 1, 5, 0, 0, 0, 1, 0, 3, 0, 1, 0, 2, 1, 0]
        self.assertEqual(answers(calls), expected)

    def test_the_later_numbers_as_they_lie(self):
        calls = [0, 3, 10, 2, 0, 20]
        calls += [1, 100, 1, 90, 1, 110, 1, 120]
        calls += [2, 0, 0, 0, 2, 1, 0, 1, 2, 2, 0, 2, 2, 3, 1, 0]
        calls += [5, 2, 0, 6, 1, 3]
        expected = [1, 0]
        expected += [1, 0, 1, 1, 1, 2, 1, 3]
        expected += [1, 1, 1, 1, 1, 1, 1, 1]
        expected += [1, 1, 1, 1]
        calls += [14, 0, 15, 0, 16, 0, 17, 0, 18, 0, 15, 0, 19, 0, 20, 0]
        expected += [1, 0, 4, 3, 1, 2, 3, 1, 0, 4, 2, 0, 2, 1, 1, 2, 4, 3, 1, 3, 2, 4, 1, 0, 2, 1, 2, 1, 0]
        calls += [21, 0, 22, 3, 23, 24, 1, 25, 3, 26, 27]
        expected += [3, 2, 2, 3, 2, 30, 0, 5, 2, 1, 1, 1, 2, 2, 0, 2, 4, 120, 1, 1, 0, 6, 4, 4, 4, 0, 1, 1]
        expected += [5, 3, 10, 2, 0, 20]
        self.assertEqual(answers(calls), expected)

    def test_how_long_an_answer_is(self):
        """People of column, shape and please without how many they are; the others with what they tell."""
        before = standing(10, (0, 20, 40), 5, [(100, 0, 4), (120, 0, 0), (110, 0, 2), (130, 1, 4), (90,)])
        lengths = {
            ("column", 4): 3, ("column", 1): 1, ("mend", 4): 1, ("row", 0): 6, ("row", 2): 6, ("hill", 0): 1,
            ("shape", 0): 4, ("shape", 2): 1, ("form", 0): 1, ("please", 0): 4, ("please", 2): 1, ("seat", 0): 2,
            ("seat", 2): 2, ("beside", 0): 2, ("spare", 3): 2, ("free",): 23, ("good", 4): 2, ("look", 0): 4,
            ("look", 4): 4, ("sums",): 6, ("state",): 6, ("met",): 5, ("off", 0): 2, ("swap", 0, 1): 1,
        }
        for call, length in lengths.items():
            with self.subTest(call):
                self.assertEqual(len(last(before + [call])), length)

    def test_begin_takes_as_many_steps_as_it_tells(self):
        self.assertEqual(answers([0, 1, 5, 0, 11]), [1, -22, 1, -11])
        self.assertEqual(answers([0, 1, 5, 8, 0, 1, 2, 3, 4, 5, 6, 7, 11]), [1, -22, 1, -11])
        self.assertEqual(answers([0, 1, 5, 5, 1, 1, 1, 1, 1, 11]), [1, 0, 1, 1])

    def test_a_refusal_is_the_number_alone(self):
        self.assertEqual(answers([3, 0]), [1, -11])
        self.assertEqual(answers([0, 1, 5, 1, 0, 3, 0, 10, 0, 13, 1]), [1, 0, 1, -2, 1, -2, 1, -22])

    def test_every_call_is_among_them(self):
        self.assertEqual({call[0] for call in EVERY_CALL}, set(NAMES))

    def test_a_list_of_plain_whole_numbers(self):
        told = answers(flat(EVERY_CALL))
        self.assertIs(type(told), list)
        self.assertEqual({type(number) for number in told}, {int})

    def test_what_is_handed_in_is_not_changed(self):
        calls = flat(EVERY_CALL)
        watched = Watched(calls)
        self.assertEqual(answers(watched), answers(calls))
        self.assertEqual(list(watched), calls)

    def test_nothing_is_kept(self):
        calls = flat(EVERY_CALL)
        once = answers(calls)
        self.assertEqual(answers([11, 8, 0]), [1, -11, 1, -11])
        self.assertEqual(answers(calls), once)
        once.clear()
        self.assertEqual(len(answers(calls)), len(answers(list(calls))))

    def test_nothing_is_printed(self):
        said = io.StringIO()
        with contextlib.redirect_stdout(said), contextlib.redirect_stderr(said):
            standrows.photo.answers(flat(EVERY_CALL))
        self.assertEqual(said.getvalue(), "")

    def test_four_hundred_calls(self):
        people = [(70 + 40 * row, 4 - row, 0) for row in range(5)]
        calls = standing(10, (0, 0, 0, 0, 0), 6, people)
        calls += [("column", 0)] * (400 - len(calls))
        self.assertEqual(len(calls), 400)
        self.assertEqual(ask(calls)[len(calls) - 389:], [[4, 0, 1, 2, 3, 4]] * 389)

    def test_four_hundred_calls_on_full_rows(self):
        places = [(row, column) for row in range(3) for column in range(6)]
        people = [(50 + 37 * k % 100, row, column) for k, (row, column) in enumerate(places)]
        calls = standing(10, (0, 40, 80), 6, people)
        calls += [("wish", p, q) for p in range(6) for q in range(p)]
        asked = [("please", 0), ("seat", 0), ("shape", 0), ("good", 17)]
        calls += asked * ((400 - len(calls)) // 4)
        found = ask(calls)
        self.assertEqual(found[-8:-4], found[-4:])


if __name__ == "__main__":
    unittest.main()
