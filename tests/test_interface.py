"""How calls lie in the list, what is given back, and that nothing handed in is changed or kept."""

import contextlib
import io
import unittest

import standrows.photo
from standrows.photo import answers
from tests.helper import ask, flat, standing

EVERY_CALL = standing(10, (0, 30, 10), 2, [(100, 0, 0), (120, 1, 0), (90, 2, 0), (80,)]) + [
    ("wish", 0, 3), ("apart", 1, 2), ("swap", 0, 1), ("seen", 2), ("hidden",), ("hides", 2), ("all",), ("met",),
    ("column", 0), ("column", 1), ("forget", 0, 3), ("off", 2), ("off", 2), ("person", 10), ("begin", 9, 9, []),
]


class Watched(list):
    """A list that fails when it is changed, be it for a while."""

    def refuse(self, *arguments, **named):
        raise AssertionError("what is handed in is changed")

    __setitem__ = __delitem__ = __iadd__ = __imul__ = refuse
    append = clear = extend = insert = pop = remove = reverse = sort = refuse


class Interface(unittest.TestCase):
    def test_the_numbers_as_they_lie(self):
        calls = [0, 2, 10, 2, 0, 20]
        calls += [1, 100, 1, 105, 1, 60]
        calls += [2, 0, 0, 1, 2, 1, 1, 1, 2, 2, 1, 0]
        calls += [4, 0, 1, 5, 0, 2, 6, 1, 0, 7, 0, 2, 8, 0, 9, 10, 0, 11, 12, 13, 1, 3, 2]
        expected = [1, 0]
        expected += [1, 0, 1, 1, 1, 2]
        expected += [1, 1, 1, 1, 1, 1]
        expected += [1, 0, 1, 1, 1, 1, 1, 0, 1, 1, 1, 0, 1, 0, 1, 1, 5, 0, 0, 0, 1, 0, 3, 0, 1, 0, 2, 1, 0]
        self.assertEqual(answers(calls), expected)

    def test_begin_takes_as_many_steps_as_it_tells(self):
        self.assertEqual(answers([0, 1, 5, 0, 11]), [1, -22, 1, -11])
        self.assertEqual(answers([0, 1, 5, 8, 0, 1, 2, 3, 4, 5, 6, 7, 11]), [1, -22, 1, -11])
        self.assertEqual(answers([0, 1, 5, 5, 1, 1, 1, 1, 1, 11]), [1, 0, 1, 1])

    def test_a_refusal_is_the_number_alone(self):
        self.assertEqual(answers([3, 0]), [1, -11])
        self.assertEqual(answers([0, 1, 5, 1, 0, 3, 0, 10, 0, 13, 1]), [1, 0, 1, -2, 1, -2, 1, -22])

    def test_a_list_of_plain_whole_numbers(self):
        told = answers(flat(EVERY_CALL))
        self.assertIs(type(told), list)
        self.assertEqual({type(number) for number in told}, {int})

    def test_what_is_handed_in_is_not_changed(self):
        calls = flat(EVERY_CALL)
        watched = Watched(calls)
        self.assertEqual(answers(watched), answers(calls))
        self.assertEqual(list(watched), calls)

    def test_nothing_is_kept(self):
        calls = flat(EVERY_CALL)
        once = answers(calls)
        self.assertEqual(answers([11, 8, 0]), [1, -11, 1, -11])
        self.assertEqual(answers(calls), once)
        once.clear()
        self.assertEqual(len(answers(calls)), len(answers(list(calls))))

    def test_nothing_is_printed(self):
        said = io.StringIO()
        with contextlib.redirect_stdout(said), contextlib.redirect_stderr(said):
            standrows.photo.answers(flat(EVERY_CALL))
        self.assertEqual(said.getvalue(), "")

    def test_four_hundred_calls(self):
        people = [(70 + 40 * row, 4 - row, 0) for row in range(5)]
        calls = standing(10, (0, 0, 0, 0, 0), 6, people)
        calls += [("column", 0)] * (400 - len(calls))
        self.assertEqual(len(calls), 400)
        self.assertEqual(ask(calls)[len(calls) - 389:], [[4, 0, 1, 2, 3, 4]] * 389)


if __name__ == "__main__":
    unittest.main()
