"""plan: promise 4, and what the words say of days and plans."""

import unittest

from tests.helper import EXAMPLE, day, last, least, load, make, plan, room, run, write

# Ten rows; with a the question q costs 7, with b the question r costs 3, without any index each costs 20.
TABLE = "table (a, b); row 1, 1 times 6; row 1, 2 times 1; row 2, 2 times 2; row 3, 3 times 1; "
ASKS = "ask q where a = 1; ask r where b = 2; "
# Each of both indexes has a room of 20.
TWO = load(TABLE + ASKS + "index i on a; index j on b;")


def indexes(count):
    return "".join([f"index {name} on a;" for name in "ijklmnop"[:count]])


class Refused(unittest.TestCase):
    def test_five_indexes_and_six(self):
        for count, expected in ((0, [0, 1, 0]), (5, [0, 1, 0]), (6, [-7]), (8, [-7])):
            self.assertEqual(last(load(TABLE + ASKS + indexes(count)), plan()), expected)

    def test_six_with_days_and_room(self):
        self.assertEqual(last(load(TABLE + ASKS + indexes(6)), room(1000), day(1, 1), plan()), [-7])

    def test_the_sixth_is_made(self):
        text = load(TABLE + ASKS + indexes(5))
        found = run(text, room(20), day(2, 0), plan(), make(0, 0), plan(), plan(), least())
        self.assertEqual(found[3:], [[34, 5, 1, 1, 0], [5, 20, 0], [-7], [-7], [27, 6, 1, 0]])


class Plans(unittest.TestCase):
    def expect(self, days, number, *expected):
        found = last(TWO, room(number), *[day(*told) for told in days], plan())
        self.assertEqual(found, list(expected), (days, number))

    def test_no_day_at_all(self):
        self.expect((), 0, 0, 1, 0)
        self.expect((), 1000, 0, 1, 0)
        self.assertEqual(last(load("table (a);"), plan()), [0, 1, 0])

    def test_no_question_and_no_index(self):
        self.assertEqual(last(load("table (a);"), day(), day(), plan()), [0, 1, 2, 0, 0])
        self.assertEqual(last(load(TABLE + ASKS), room(5), day(1, 2), day(3, 4), plan()), [200, 1, 2, 0, 0])

    def test_one_day(self):
        self.expect(((1, 0),), 20, 20, 1, 1, 0)
        self.expect(((2, 0),), 20, 34, 1, 1, 1, 0)
        self.expect(((0, 2),), 20, 26, 1, 1, 1, 1)
        self.expect(((2, 2),), 20, 66, 1, 1, 1, 1)
        self.expect(((2, 2),), 40, 60, 1, 1, 2, 0, 1)

    def test_no_room(self):
        for number in (0, 19):
            self.expect(((1000, 1000),), number, 40000, 1, 1, 0)
            self.expect(((2, 0), (0, 3)), number, 100, 1, 2, 0, 0)

    def test_what_is_built_serves_later_days_too(self):
        self.expect(((1, 0), (1, 0)), 20, 34, 1, 2, 1, 0, 1, 0)
        self.expect(((1, 0), (1, 0)), 19, 40, 1, 2, 0, 0)

    def test_it_may_be_dearer_to_build_than_to_go_without(self):
        self.expect(((2, 0), (0, 2), (2, 0)), 20, 88, 1, 3, 1, 0, 1, 0, 1, 0)

    def test_what_was_given_up_is_built_again(self):
        # With i all along 20 + 14 + 200 + 14; with j between 20 + 14, 20 + 30, 20 + 14.
        self.expect(((2, 0), (0, 10), (2, 0)), 20, 118, 1, 3, 1, 0, 1, 1, 1, 0)

    def test_enough_room_for_both(self):
        self.expect(((2, 0), (0, 2), (2, 0)), 40, 74, 4, 3, 1, 0, 2, 0, 1, 1, 0)

    def test_upkeep_is_for_each_day(self):
        days = [day(2, 0), day(0, 2), day(2, 0)]
        self.assertEqual(last(TWO, room(40), write(0, 1, 1, 1), *days, plan()), [86, 1, 3, 1, 0, 2, 0, 1, 1, 0])
        self.assertEqual(last(TWO, room(40), *days, write(0, 7, 1, 1), plan()), [120, 1, 3, 0, 0, 0])

    def test_a_day_on_which_nothing_is_asked(self):
        self.expect(((0, 0),), 1000, 0, 1, 1, 0)
        self.expect(((2, 0), (0, 0), (2, 0)), 20, 48, 1, 3, 1, 0, 1, 0, 1, 0)
        self.expect(((0, 0), (2, 0)), 20, 34, 2, 2, 0, 1, 0)
        self.expect(((2, 0), (0, 0)), 20, 34, 2, 2, 1, 0, 0)

    def test_six_days(self):
        self.expect(((1, 0),) * 6, 20, 62, 1, 6, *[1, 0] * 6)
        self.expect(((0, 0),) * 5 + ((2, 0),), 20, 34, 6, 6, *[0] * 5, 1, 0)
        self.expect(((2, 2),) + ((0, 0),) * 5, 40, 60, 36, 6, 2, 0, 1, *[0] * 5)

    def test_many_least_plans(self):
        # Indexes without entries take no room: each day may have any of the 32 sets.
        names = "ijklm"
        text = TABLE + "ask q;" + "".join([f"index {name} on a only b = 9;" for name in names])
        found = last(load(text), *[day(0)] * 6, plan())
        self.assertEqual(found, [0, 32 ** 6, 6, 0, 0, 0, 0, 0, 0])

    def test_the_first_one_of_several_sets(self):
        text = load(TABLE + ASKS + "index i on a with b; index j on a; index k on a;")
        self.assertEqual(last(text, room(20), day(2, 0), plan()), [34, 2, 1, 1, 1])
        self.assertEqual(last(text, room(20), day(2, 0), day(2, 0), plan()), [48, 2, 2, 1, 1, 1, 1])

    def test_the_first_days_set_counts_first(self):
        # By the whole table an asking costs 20, by the index 5, and the upkeep is 15: on the first day that's the same.
        text = load("table (a); row 1 times 5; row 2 times 5; ask q where a = 1; index i on a only a from 1 to 4;")
        found = run(text, room(20), write(0, 5, 1), day(1), day(4), plan())
        self.assertEqual(found[3:], [[0], [1], [75, 2, 2, 0, 1, 0]])

    def test_what_the_questions_tell_of_it_does_not_count(self):
        text = load(TABLE + "ask q where a = 1 times 1000; ask r where b = 2 times 0; index i on a; index j on b;")
        self.assertEqual(last(text, room(20), day(0, 2), plan()), [26, 1, 1, 1, 1])

    def test_a_set_is_within_the_room_on_its_own_day(self):
        self.expect(((10, 0), (0, 10)), 39, 140, 1, 2, 1, 0, 1, 1)
        self.expect(((10, 10),), 39, 250, 1, 1, 1, 1)

    def test_the_room_that_there_is_now_counts(self):
        found = run(TWO, room(40), day(2, 2), plan(), room(20), plan(), room(0), plan())
        self.assertEqual(found[3::2], [[60, 1, 1, 2, 0, 1], [66, 1, 1, 1, 1], [80, 1, 1, 0]])

    def test_a_text_loaded_anew_has_no_days(self):
        self.assertEqual(last(TWO, day(2, 2), TWO, plan()), [0, 1, 0])

    def test_days_that_were_refused_do_not_count(self):
        self.assertEqual(last(TWO, room(20), day(2, 0), day(2), day(1001, 0), plan()), [34, 1, 1, 1, 0])
        self.assertEqual(last(TWO, *[day(1, 0)] * 6, day(1000, 0), plan()), [120, 1, 6, 0, 0, 0, 0, 0, 0])

    def test_the_example_without_a_room(self):
        self.assertEqual(last(load(EXAMPLE), day(5, 0), day(0, 2), plan()), [215, 1, 2, 0, 0])


if __name__ == "__main__":
    unittest.main()
