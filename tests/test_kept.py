"""kept: promises 3 and 4."""

import unittest

from tests.helper import EXAMPLE, kept, last, least, load, make, room, run, write

# Ten rows; with a the question q costs 7, with b the question r costs 3, without any index each costs 20.
TABLE = "table (a, b); row 1, 1 times 6; row 1, 2 times 1; row 2, 2 times 2; row 3, 3 times 1; "
ASKS = "ask q where a = 1; ask r where b = 2; "
TWO = load(TABLE + ASKS + "index i on a; index j on b;")
MOST = 1000000000


class Refused(unittest.TestCase):
    def test_no_such_question(self):
        for number in (-1, 2, 10 ** 18, -10 ** 18):
            self.assertEqual(last(TWO, kept(number, 7)), [-2])
        self.assertEqual(last(load("table (a);"), kept(0, 7)), [-2])

    def test_a_cost_beyond_either_end(self):
        for cost in (-1, MOST + 1, 10 ** 18, -10 ** 18):
            self.assertEqual(last(TWO, kept(0, cost)), [-5])

    def test_no_such_question_comes_ahead_of_the_cost(self):
        for cost in (-1, MOST + 1):
            self.assertEqual(run(TWO, kept(2, cost), kept(-1, cost))[1:], [[-2], [-2]])

    def test_nothing_is_changed_by_it(self):
        found = run(TWO, room(20), kept(5, 7), kept(0, -1), least(), kept(0, 7))
        self.assertEqual(found[2:], [[-2], [-5], [23, 1, 1, 1], [1, 27, 1, 0]])


class Kept(unittest.TestCase):
    def test_a_cost_that_no_set_keeps(self):
        self.assertEqual(run(TWO, room(40), kept(0, 6), kept(0, 0), kept(1, 2))[2:], [[0], [0], [0]])

    def test_a_cost_that_all_keep(self):
        for cost in (20, 21, MOST - 1, MOST):
            found = run(TWO, room(20), kept(0, cost), kept(1, cost))
            self.assertEqual(found[2:], [[1, 23, 1, 1], [1, 23, 1, 1]])

    def test_a_wish_that_costs(self):
        for cost in (7, 8, 19):
            self.assertEqual(last(TWO, room(20), kept(0, cost)), [1, 27, 1, 0])
        self.assertEqual(last(TWO, room(40), kept(0, 7)), [1, 10, 2, 0, 1])

    def test_only_sets_within_the_room(self):
        self.assertEqual(run(TWO, room(19), kept(0, 7), kept(0, 20))[2:], [[0], [1, 40, 0]])
        self.assertEqual(run(TWO, room(39), kept(0, 7), kept(0, 20))[2:], [[1, 27, 1, 0], [1, 23, 1, 1]])

    def test_a_cost_of_nothing(self):
        text = load(TABLE + "ask q where a = 7; index i on b; index j on a;")
        self.assertEqual(run(text, room(20), kept(0, 0))[2:], [[1, 0, 1, 1]])
        self.assertEqual(run(load("table (a); ask q;"), kept(0, 0))[1:], [[1, 0, 0]])

    def test_it_is_one_asking_that_must_not_cost_more(self):
        text = load(TABLE + "ask q where a = 1 times 1000; index i on a;")
        self.assertEqual(run(text, room(20), kept(0, 7), kept(0, 6))[2:], [[1, 7000, 1, 0], [0]])

    def test_a_question_that_is_not_asked(self):
        text = load(TABLE + "ask q where a = 1 times 0; index i on a;")
        self.assertEqual(run(text, room(20), kept(0, 7), kept(0, 20))[2:], [[1, 0, 1, 0], [1, 0, 0]])
        self.assertEqual(last(text, room(20), write(0, 1, 1, 1), kept(0, 7)), [1, 3, 1, 0])

    def test_the_upkeep_counts(self):
        written = [TWO, room(40), write(0, 6, 1, 1)]
        self.assertEqual(run(*written, least(), kept(0, 7), kept(1, 3))[3:], [
            [40, 1, 0], [1, 45, 1, 0], [1, 41, 1, 1]])

    def test_the_first_one_of_several(self):
        text = load(TABLE + "ask q where a = 1; index i on b; index j on a, b; index k on a; index l on a;")
        self.assertEqual(last(text, room(1000), kept(0, 7)), [1, 7, 1, 1])
        self.assertEqual(last(text, room(20), kept(0, 7)), [1, 7, 1, 2])
        self.assertEqual(last(text, room(1000), kept(0, 20)), [1, 7, 1, 1])

    def test_fewer_indexes_come_first(self):
        text = load(TABLE + ASKS + "index i on a only a = 1; index j on b only b = 2; index k on a, b; index l on b, a;")
        self.assertEqual(last(text, room(60), kept(0, 7)), [1, 10, 2, 0, 1])
        self.assertEqual(last(text, room(60), kept(0, 10)), [1, 10, 2, 0, 1])
        one = load(TABLE + "ask q where a = 1; index i on b; index j on b; index k on a;")
        self.assertEqual(last(one, room(1000), kept(0, 7)), [1, 7, 1, 2])

    def test_an_index_that_is_made_counts(self):
        text = load(TABLE + ASKS + "index i on a;")
        found = run(text, room(20), kept(1, 3), make(1, 0), kept(1, 3))
        self.assertEqual(found[2:], [[0], [1, 20, 0], [1, 23, 1, 1]])

    def test_the_example_without_a_room(self):
        self.assertEqual(run(load(EXAMPLE), kept(1, 7), kept(1, 20))[1:], [[0], [1, 215, 0]])


if __name__ == "__main__":
    unittest.main()
