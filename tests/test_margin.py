"""margin: promise 3, and what the words say of a question's margin."""

import unittest

from tests.helper import EXAMPLE, last, least, load, make, margin, room, run, write

# Ten rows; with a the question q costs 7, with b the question r costs 3, without any index each costs 20.
TABLE = "table (a, b); row 1, 1 times 6; row 1, 2 times 1; row 2, 2 times 2; row 3, 3 times 1; "
ASKS = "ask q where a = 1; ask r where b = 2; "
TWO = load(TABLE + ASKS + "index i on a; index j on b;")
# Eight rows; the question costs 16 by the whole table, 4 by the index.
HALVES = "table (a); row 1 times 4; row 2 times 4; ask q where a = 1 times {}; index i on a;"
NO_END = [-1, 0]


class Refused(unittest.TestCase):
    def test_no_such_question(self):
        for number in (-1, 2, 10 ** 18, -10 ** 18):
            self.assertEqual(run(load(EXAMPLE), margin(number), margin(0))[1:], [[-2], [0, 1] + NO_END])
        self.assertEqual(last(load("table (a);"), margin(0)), [-2])


class Margins(unittest.TestCase):
    def test_no_index_at_all(self):
        self.assertEqual(run(load(TABLE + ASKS), margin(0), margin(1))[1:], [[0, 1] + NO_END] * 2)
        self.assertEqual(last(load("table (a); ask q times 0;"), margin(0)), [0, 1] + NO_END)

    def test_no_room(self):
        self.assertEqual(run(TWO, margin(0), margin(1))[1:], [[0, 1] + NO_END] * 2)

    def test_all_indexes_without_upkeep(self):
        self.assertEqual(run(TWO, room(40), margin(0), margin(1))[2:], [[0, 1] + NO_END] * 2)

    def test_room_for_one_alone(self):
        # The set of j costs 20 x and 3 y, that of i 7 x and 20 y.
        self.assertEqual(run(TWO, room(20), margin(0), margin(1))[2:], [[0, 1, 17, 13], [13, 17] + NO_END])

    def test_sets_beyond_the_room_do_not_count(self):
        self.assertEqual(last(TWO, room(39), margin(0)), [0, 1, 17, 13])

    def test_upkeep_makes_a_least_number(self):
        written = [TWO, room(40), write(0, 2, 1, 1)]
        self.assertEqual(run(*written, margin(0), margin(1))[3:], [[6, 13] + NO_END, [6, 17] + NO_END])

    def test_how_often_it_is_asked_now_moves_only_which_set_is_first(self):
        for often, expected in ((0, [0, 1, 1, 2]), (1, [1, 2] + NO_END), (1000, [1, 2] + NO_END)):
            self.assertEqual(last(load(HALVES.format(often)), room(100), write(0, 2, 1), margin(0)), expected)

    def test_lowest_terms(self):
        for rows, expected in ((1, [1, 4]), (2, [1, 2]), (4, [1, 1]), (6, [3, 2]), (8, [2, 1]), (9, [9, 4])):
            found = last(load(HALVES.format(1000)), room(100), write(0, rows, 1), margin(0))
            self.assertEqual(found, expected + NO_END)
            found = last(load(HALVES.format(0)), room(100), write(0, rows, 1), margin(0))
            self.assertEqual(found, [0, 1] + expected)

    def test_both_ends_are_none(self):
        # Both sets cost nothing; the first one is that of no index, and with any asking it costs more.
        self.assertEqual(run(load(HALVES.format(0)), room(100), least(), margin(0))[2:], [[0, 2, 0], [0, 1, 0, 1]])

    def test_at_the_end_itself_the_first_set_is_least_beside_another(self):
        found = run(load(HALVES.format(1)), room(100), write(0, 4, 1), least(), margin(0))
        self.assertEqual(found[3:], [[16, 2, 0], [0, 1, 1, 1]])

    def test_both_ends(self):
        # Asked x times the sets cost: none 28 x; i 16 x + 6; j 4 x + 18.
        text = load("table (a, b, c); row 1, 1, 1 times 4; row 2, 1, 1 times 4; ask q where a = 1 by b; "
                    "index i on a with b; index j on a, b with c;")
        written = [text, room(1000), write(0, 2, 1, 1, 1), write(2, 2, 1, 1, 1, 1, 1, 2)]
        self.assertEqual(run(*written, least(), margin(0))[4:], [[22, 2, 1, 0], [1, 2, 1, 1]])

    def test_several_least_sets_that_are_alike(self):
        text = TABLE + "ask q where a = 1; index i on a, b; index j on a; index k on a with b;"
        self.assertEqual(run(load(text), room(1000), least(), margin(0))[2:], [[7, 7, 1, 0], [0, 1] + NO_END])

    def test_several_least_sets_that_part_at_once(self):
        text = "table (a, b); row 1, 2 times 3; row 2, 1 times 3; row 2, 2 times 4; "
        text = load(text + "ask q where a = 1; ask r where b = 1; index i on a; index j on b;")
        found = run(text, room(20), least(), margin(0), margin(1))
        self.assertEqual(found[2:], [[23, 2, 1, 0], [1, 1] + NO_END, [0, 1, 1, 1]])

    def test_a_question_that_no_index_serves(self):
        text = TABLE + "ask q where a = 1; ask r where b = 2; index i on a only a from 1 to 2;"
        self.assertEqual(last(load(text), room(100), write(0, 1, 1, 1), margin(1)), [0, 1] + NO_END)

    def test_great_numbers(self):
        # By the index it costs 1, by the whole table 2000002, and the upkeep is 18000000; 3 divides both.
        text = load("table (a); row 1 times 1; row 2 times 1000000; ask q where a = 1 times 1000; index i on a;")
        written = [text, room(1000000000)] + [write(0, 1000000, 1)] * 6
        self.assertEqual(last(*written, margin(0)), [6000000, 666667] + NO_END)

    def test_an_index_that_is_made_counts(self):
        text = load(TABLE + ASKS + "index i on a;")
        found = run(text, room(20), margin(0), margin(1), make(1, 0), margin(0), margin(1))
        self.assertEqual(found[2:], [
            [0, 1] + NO_END, [0, 1] + NO_END, [1, 20, 0], [0, 1, 17, 13], [13, 17] + NO_END])


if __name__ == "__main__":
    unittest.main()
