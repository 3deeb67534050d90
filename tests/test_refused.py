"""Every refusal of every call on one object, and that what is refused, or only asks, changes nothing."""

import unittest

from tests.helper import NAMES, ask, last, probe, standing

# In column 1 no order would do; for 5 no place is good; 5 and 6 aren't placed.
PEOPLE = [
    (100, 0, 0), (95, 1, 0), (140, 2, 0), (120, 1, 1), (120, 2, 1), (80,), (85,), (250, 0, 2), (120, 0, 1),
]
PAIRS = [("wish", 0, 3), ("wish", 5, 2), ("wish", 7, 0), ("apart", 0, 1), ("apart", 4, 6)]
BEFORE = standing(10, (0, 30, 10), 3, PEOPLE) + PAIRS

REFUSED = [
    (("begin", 7, 10, [0]), -22), (("begin", 3, 61, [0]), -22), (("begin", 3, 10, [0] * 6), -22),
    (("begin", 0, 10, [0]), -22), (("begin", 3, 4, [0]), -22), (("begin", 3, 10, []), -22),
    (("begin", 3, 10, [0, 201]), -22),
    (("person", 49), -22), (("person", 251), -22),
    (("put", 9, 1, 2), -2), (("put", 9, 3, 3), -2), (("put", 9, 0, 0), -2), (("put", 0, 3, 0), -22),
    (("put", 0, 0, 3), -22), (("put", 0, 0, 1), -16), (("put", 5, 0, 0), -16), (("put", 0, 0, 0), -16),
    (("off", 9), -2), (("off", 5), -6),
    (("swap", 0, 9), -2), (("swap", 9, 9), -2), (("swap", 9, 5), -2), (("swap", 0, 0), -22), (("swap", 5, 5), -22),
    (("swap", 0, 5), -6), (("swap", 5, 0), -6), (("swap", 5, 6), -6),
    (("wish", 9, 0), -2), (("wish", 9, 9), -2), (("wish", 1, 1), -22), (("wish", 3, 0), -17), (("wish", 1, 0), -16),
    (("apart", 9, 0), -2), (("apart", 9, 9), -2), (("apart", 1, 1), -22), (("apart", 1, 0), -17),
    (("apart", 3, 0), -16),
    (("forget", 0, 9), -2), (("forget", 9, 9), -2), (("forget", 2, 2), -22), (("forget", 1, 2), -6),
    (("seen", 9), -2), (("seen", 5), -6), (("hides", 9), -2), (("hides", 5), -6),
    (("column", 3), -22), (("column", 1), -33), (("mend", 3), -22), (("mend", 1), -33),
    (("row", 3), -22), (("hill", 3), -22), (("shape", 3), -22), (("form", 3), -22), (("please", 3), -22),
    (("seat", 3), -22),
    (("beside", 9), -2), (("beside", 5), -6),
    (("spare", 9), -2), (("spare", 5), -6), (("spare", 0), -33),
    (("good", 9), -2), (("good", 5), -33), (("look", 9), -2),
]
ASKS = [
    ("seen", 1), ("seen", 4), ("hidden",), ("hides", 4), ("all",), ("met",), ("column", 0), ("column", 2), ("row", 0),
    ("row", 2), ("hill", 0), ("hill", 1), ("shape", 0), ("shape", 1), ("shape", 2), ("please", 0), ("please", 1),
    ("please", 2), ("beside", 0), ("beside", 3), ("spare", 1), ("spare", 4), ("free",), ("good", 0), ("good", 1),
    ("good", 7), ("look", 0), ("look", 5), ("sums",), ("state",),
]
CHANGES = ("begin", "person", "put", "off", "swap", "wish", "apart", "forget", "mend", "form", "seat")


def held_after(calls):
    before = BEFORE + calls
    return ask(before + probe(len(PEOPLE), 3))[len(before):]


class Refused(unittest.TestCase):
    def test_what_is_refused_changes_nothing(self):
        before = held_after([])
        for call, answer in REFUSED:
            with self.subTest(call):
                self.assertEqual(last(BEFORE + [call]), [answer])
                self.assertEqual(held_after([call]), before)

    def test_all_of_it_one_after_the_other(self):
        calls = [call for call, answer in REFUSED]
        self.assertEqual(ask(BEFORE + calls)[len(BEFORE):], [[answer] for call, answer in REFUSED])
        self.assertEqual(held_after(calls), held_after([]))

    def test_twenty_people_and_one_more(self):
        before = standing(10, (0, 30, 10), 3, PEOPLE + [(100,)] * 11) + PAIRS
        after = before + [("person", 100), ("person", 0)]
        self.assertEqual(ask(after)[-2:], [[-28], [-28]])
        self.assertEqual(ask(after + probe(20, 3)[:200])[len(after):], ask(before + probe(20, 3)[:200])[len(before):])

    def test_the_probe_shows_every_change(self):
        """Or else nothing would be known by its answers staying the same."""
        before = held_after([])
        changes = [
            ("begin", 3, 10, [0, 30, 10]), ("person", 100), ("put", 5, 1, 2), ("put", 0, 2, 2), ("off", 4),
            ("swap", 0, 1), ("wish", 1, 2), ("apart", 1, 2), ("forget", 3, 0), ("forget", 4, 6), ("seat", 0),
        ]
        for call in changes:
            with self.subTest(call):
                self.assertGreaterEqual(last(BEFORE + [call])[0], 0)
                self.assertNotEqual(held_after([call]), before)
        for first, call in ((("swap", 0, 2), ("mend", 0)), (("swap", 0, 8), ("form", 0))):
            with self.subTest(call):
                self.assertEqual(last(BEFORE + [first, call]), [2])
                self.assertNotEqual(held_after([first, call]), held_after([first]))


class Asked(unittest.TestCase):
    def test_what_only_asks_changes_nothing(self):
        self.assertEqual(sorted({call[0] for call in ASKS} | set(CHANGES)), sorted(NAMES))
        before = held_after([])
        for call in ASKS:
            with self.subTest(call):
                self.assertGreaterEqual(last(BEFORE + [call])[0], 0)
                self.assertEqual(held_after([call]), before)

    def test_asked_twice_it_answers_the_same(self):
        found = ask(BEFORE + ASKS + ASKS)[len(BEFORE):]
        self.assertEqual(found[:len(ASKS)], found[len(ASKS):])


if __name__ == "__main__":
    unittest.main()
