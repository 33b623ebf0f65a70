"""write, room and day: promise 2."""

import unittest

from tests.helper import (
    EXAMPLE, answer, candidates, check, day, kept, last, least, load, make, margin, outdone, plan, prove, room, run,
    total, way, worth, write,
)

HUGE = 10 ** 18


class WithoutAText(unittest.TestCase):
    def test_all_others_are_refused(self):
        calls = (
            write(0, 1, 1, 5), room(5), day(1, 1), way(0), answer(0), total(), least(), prove(), check(5, 1), margin(0),
            kept(0, 5), outdone(), worth(0), candidates(0), make(0, 0), plan(),
        )
        self.assertEqual(run(*calls), [[-8]] * len(calls))

    def test_that_comes_ahead_of_all_other_refusals(self):
        calls = (
            write(), room(-1), day(), way(-1, 5), way(0, 1, 0), answer(99), total(8), check(-1, 1), check(5), margin(9),
            kept(9, 5), kept(0, -1), worth(9), worth(0, 9), candidates(9), make(9, 0), make(0, 9),
        )
        self.assertEqual(run(*calls), [[-8]] * len(calls))

    def test_nothing_is_changed_by_it(self):
        refused = (write(0, 1, 1, 5), room(60), day(1, 1), make(0, 0))
        found = run(*refused, load(EXAMPLE), total(1), least(), total(2), write(0, 1, 1, 5), day(1, 1))
        self.assertEqual(found[4:], [[0, 2, 4, 2, 2], [24, 0, 30], [215, 1, 0], [-3], [0], [0]])

    def test_a_text_with_a_fault_is_none(self):
        calls = (least(), outdone(), plan(), check(0, 1))
        self.assertEqual(run(load("table (a)"), *calls), [[1, 2, 9]] + [[-8]] * len(calls))


class Writes(unittest.TestCase):
    GOOD = (
        (0, 1, 0, 0), (1, 1000000, 9, 9), (2, 5, 1, 5, 2, 5), (2, 5, 1, 5, 1, 5), (0, 1000000, 3, 3), (1, 1, 4, 4),
    )
    WRONG = (
        (), (0,), (0, 1), (0, 1, 1), (0, 1, 1, 5, 1), (0, 1, 1, 5, 1, 5), (1, 1, 1), (1, 1, 1, 5, 1, 5),
        (2, 1, 1, 5), (2, 1, 1, 5, 1), (2, 1, 1, 5, 1, 5, 1), (3, 1, 1, 5), (3, 1, 1, 5, 1, 5), (-1, 1, 1, 5),
        (0, 0, 1, 5), (0, -1, 1, 5), (0, 1000001, 1, 5), (0, HUGE, 1, 5), (0, 1, 10, 5), (0, 1, 1, 10),
        (0, 1, -1, 5), (0, 1, 1, -HUGE), (2, 1, 1, 5, 10, 5), (2, 1, 1, 5, 1, -1), (2, 1, 1, 10, 1, 5),
        (0,) * 20, (HUGE,) * 4,
    )

    def test_numbers_up_to_the_sixth_and_the_seventh(self):
        found = run(load(EXAMPLE), *[write(*told) for told in self.GOOD], write(0, 1, 1, 5))
        self.assertEqual(found[1:], [[0], [1], [2], [3], [4], [5], [-6]])

    def test_lists_that_are_no_write(self):
        for told in self.WRONG:
            self.assertEqual(last(load(EXAMPLE), write(*told)), [-1], told)

    def test_they_change_nothing(self):
        refused = [write(*told) for told in self.WRONG]
        found = run(load(EXAMPLE), *refused, total(0, 1), write(0, 1, 1, 5))
        self.assertEqual(found[-2:], [[24, 0, 60], [0]])

    def test_no_write_comes_ahead_of_too_many(self):
        full = [load(EXAMPLE)] + [write(*told) for told in self.GOOD]
        for told in self.WRONG:
            self.assertEqual(last(*full, write(*told)), [-1], told)

    def test_the_seventh_changes_nothing(self):
        full = [load(EXAMPLE)] + [write(0, 1, 1, 5)] * 6
        self.assertEqual(run(*full, write(0, 1, 1, 5), total(0, 1))[-2:], [[-6], [24, 36, 60]])

    def test_a_write_goes_by_the_tables_columns(self):
        for columns in ("a", "a, b, c", "a, b, c, d"):
            width = columns.count(",") + 1
            text = f"table ({columns});"
            self.assertEqual(last(load(text), write(0, 1, *[5] * width)), [0])
            self.assertEqual(last(load(text), write(2, 1, *[5] * 2 * width)), [0])
            self.assertEqual(last(load(text), write(0, 1, *[5] * (width + 1))), [-1])
            self.assertEqual(last(load(text), write(2, 1, *[5] * (2 * width - 1))), [-1])

    def test_the_table_stays_as_it_is(self):
        before = run(load(EXAMPLE), answer(0), answer(1), way(1), total())
        after = run(load(EXAMPLE), write(0, 9, 1, 5), write(1, 3, 1, 5), answer(0), answer(1), way(1), total())
        self.assertEqual(after[3:], before[1:])


class Rooms(unittest.TestCase):
    def test_both_ends(self):
        found = run(load(EXAMPLE), room(0), room(1000000000), room(30))
        self.assertEqual(found[1:], [[0], [1000000000], [30]])

    def test_beyond_either_end(self):
        for number in (-1, 1000000001, HUGE, -HUGE):
            self.assertEqual(last(load(EXAMPLE), room(number)), [-5])

    def test_that_changes_nothing(self):
        found = run(load(EXAMPLE), room(30), room(1000000001), room(-1), least())
        self.assertEqual(found[2:], [[-5], [-5], [24, 1, 1, 1]])

    def test_the_last_one_counts(self):
        self.assertEqual(last(load(EXAMPLE), room(30), room(29), least()), [215, 1, 0])


class Days(unittest.TestCase):
    WRONG = ((), (1,), (1, 1, 1), (1001, 1), (1, 1001), (-1, 1), (1, -1), (HUGE, 1), (1, -HUGE), (1,) * 10)

    def test_numbers_up_to_the_sixth_and_the_seventh(self):
        days = (day(0, 0), day(1000, 1000), day(1, 2), day(1, 2), day(0, 1000), day(3, 3), day(1, 1))
        self.assertEqual(run(load(EXAMPLE), *days)[1:], [[0], [1], [2], [3], [4], [5], [-6]])

    def test_lists_that_are_no_day(self):
        for told in self.WRONG:
            self.assertEqual(last(load(EXAMPLE), day(*told)), [-1], told)

    def test_they_change_nothing(self):
        refused = [day(*told) for told in self.WRONG]
        self.assertEqual(last(load(EXAMPLE), *refused, day(1, 1)), [0])

    def test_no_day_comes_ahead_of_too_many(self):
        full = [load(EXAMPLE)] + [day(1, 1)] * 6
        for told in self.WRONG:
            self.assertEqual(run(*full, day(*told), day(1, 1))[-2:], [[-1], [-6]], told)

    def test_a_number_for_each_question(self):
        for count in range(7):
            text = "table (a);" + "".join([f"ask {name};" for name in "pqrstu"[:count]])
            self.assertEqual(last(load(text), day(*[7] * count)), [0])
            self.assertEqual(last(load(text), day(*[7] * (count + 1))), [-1])

    def test_what_sets_cost_apart_from_days_stays(self):
        self.assertEqual(last(load(EXAMPLE), day(0, 0), total(1)), [24, 0, 30])


if __name__ == "__main__":
    unittest.main()
