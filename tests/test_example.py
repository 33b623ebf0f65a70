"""The document's example, whole."""

import unittest

from tests.helper import (
    EXAMPLE, answer, candidates, check, day, kept, least, load, make, margin, numbers, outdone, plan, prove, room, run,
    total, way, worth, write,
)

TOLD = (
    (load(EXAMPLE), "0 2 4 2 2"),
    (write(0, 1, 1, 5), "0"),
    (room(60), "60"),
    (way(0, 0, 1), "0 2 0 0 2"),
    (way(1), "-1 10 0 0 20"),
    (answer(0), "2 1 2 5"),
    (total(1), "24 3 30"),
    (least(), "27 1 1 1"),
    (prove(), "27 3 0 1 0 1 1"),
    (check(27, 0, 1, 0, 1, 1), "1"),
    (check(28, 0, 1, 0, 1, 1), "0"),
    (margin(0), "0 1 -1 0"),
    (kept(1, 6), "0"),
    (kept(1, 7), "1 27 1 1"),
    (outdone(), "1 0 1"),
    (worth(0, 1), "0 3"),
    (worth(1), "191 3"),
    (day(5, 0), "0"),
    (day(0, 2), "1"),
    (plan(), "60 1 2 1 1 1 1"),
    (candidates(1), "2 1 1 0 0 1 1 1 0 0"),
    (make(1, 0), "2 20 3"),
)


class Example(unittest.TestCase):
    def test_all_in_one_line(self):
        found = run(*[call for call, expected in TOLD])
        self.assertEqual(found, [numbers(expected) for call, expected in TOLD])


if __name__ == "__main__":
    unittest.main()
