"""The document's example, as far as it speaks of the calls that there are."""

import unittest

from tests.helper import EXAMPLE, answer, day, least, load, numbers, prove, room, run, total, way, write


class Example(unittest.TestCase):
    def test_all_in_one_line(self):
        told = (
            (load(EXAMPLE), "0 2 4 2 2"),
            (write(0, 1, 1, 5), "0"),
            (room(60), "60"),
            (way(0, 0, 1), "0 2 0 0 2"),
            (way(1), "-1 10 0 0 20"),
            (answer(0), "2 1 2 5"),
            (total(1), "24 3 30"),
            (least(), "27 1 1 1"),
            (prove(), "27 3 0 1 0 1 1"),
            (day(5, 0), "0"),
            (day(0, 2), "1"),
        )
        found = run(*[call for call, expected in told])
        self.assertEqual(found, [numbers(expected) for call, expected in told])


if __name__ == "__main__":
    unittest.main()
