"""outdone and worth: promise 3, and what the words say of indexes that are outdone and of an index's worth."""

import unittest

from tests.helper import EXAMPLE, last, load, make, outdone, room, run, total, worth, write

# Ten rows; with a the question q costs 7, with b the question r costs 3, without any index each costs 20.
TABLE = "table (a, b); row 1, 1 times 6; row 1, 2 times 1; row 2, 2 times 2; row 3, 3 times 1; "
ASK = "ask q where a = 1; "
ASKS = ASK + "ask r where b = 2; "
TWO = load(TABLE + ASKS + "index i on a; index j on b;")


class Outdone(unittest.TestCase):
    def found(self, asks, indexes, *writes):
        return last(load(TABLE + asks + indexes), *[write(*told) for told in writes], outdone())

    def test_no_index_and_one(self):
        self.assertEqual(self.found(ASK, ""), [0])
        self.assertEqual(self.found(ASK, "index i on a;"), [0])

    def test_two_that_are_alike(self):
        self.assertEqual(self.found(ASK, "index i on a; index j on a;"), [1, 1, 0])
        self.assertEqual(self.found("", "index i on a; index j on a;"), [1, 1, 0])

    def test_two_that_cost_the_same_though_they_are_not_alike(self):
        self.assertEqual(self.found(ASK, "index i on a with b; index j on a, b;"), [1, 1, 0])

    def test_two_of_which_each_is_better_somewhere(self):
        self.assertEqual(self.found(ASKS, "index i on a; index j on b;"), [0])
        self.assertEqual(self.found(ASKS, "index i on a, b; index j on b, a;"), [0])

    def test_a_question_that_is_asked_no_times_counts(self):
        asks = "ask q where a = 1 times 5; ask r where b = 2 times 0; "
        self.assertEqual(self.found(asks, "index i on a, b; index j on b, a;"), [0])
        self.assertEqual(self.found("ask q where a = 1 times 0; ", "index i on b, a; index j on a, b;"), [1, 0, 1])

    def test_a_question_costs_less(self):
        self.assertEqual(self.found(ASK, "index i on b, a; index j on a, b;"), [1, 0, 1])

    def test_less_room(self):
        self.assertEqual(self.found(ASK, "index i on a with b; index j on a;"), [1, 0, 1])
        self.assertEqual(self.found(ASK, "index i on a; index j on a with b;"), [1, 1, 0])

    def test_a_question_that_costs_less_but_more_room(self):
        asks = "ask q where a = 1 wants b; "
        self.assertEqual(self.found(asks, "index i on a; index j on a with b;"), [0])

    def test_less_upkeep(self):
        indexes = "index i on a; index j on a only a from 1 to 3;"
        self.assertEqual(self.found(ASK, indexes), [1, 1, 0])
        self.assertEqual(self.found(ASK, indexes, (0, 1, 1, 1)), [1, 1, 0])
        self.assertEqual(self.found(ASK, indexes, (0, 1, 9, 1)), [1, 0, 1])

    def test_less_upkeep_but_more_room(self):
        indexes = "index i on a only a from 1 to 2; index j on a, b;"
        self.assertEqual(self.found(ASK, indexes), [1, 1, 0])
        self.assertEqual(self.found(ASK, "index i on b with a only b from 1 to 3; index j on b;", (0, 1, 1, 9)), [0])

    def test_a_question_that_the_other_does_not_serve(self):
        every = "only a from 0 to 9;"
        self.assertEqual(self.found(ASKS, f"index i on a {every} index j on a;"), [1, 0, 1])
        self.assertEqual(self.found(ASKS, f"index i on a; index j on a {every}"), [1, 1, 0])
        self.assertEqual(self.found(ASK, f"index i on a {every} index j on a;"), [1, 1, 0])

    def test_one_with_less_room_that_does_not_serve_all_that_the_other_does(self):
        self.assertEqual(self.found(ASK, "index i on a; index j on a only a = 1;"), [1, 0, 1])
        self.assertEqual(self.found(ASKS, "index i on a; index j on a only a = 1;"), [0])

    def test_costs_count_only_where_the_outdone_one_serves(self):
        # By j the question r costs more than by the whole table, but i doesn't serve it at all.
        indexes = "index i on b only a from 1 to 3; index j on a;"
        self.assertEqual(self.found(ASKS, indexes), [1, 0, 1])

    def test_one_that_serves_nothing(self):
        self.assertEqual(self.found(ASK, "index i on a only b = 2; index j on a;"), [0])
        self.assertEqual(self.found(ASK, "index i on a, b only b from 1 to 3; index j on a;"), [1, 0, 1])
        self.assertEqual(self.found(ASK, "index i on b only b from 1 to 2; index j on a only b from 1 to 2;"), [1, 1, 0])

    def test_outdone_by_several_the_first_is_told(self):
        self.assertEqual(self.found(ASK, "index i on a; index j on a; index k on a;"), [2, 1, 0, 2, 0])
        self.assertEqual(self.found(ASK, "index i on a with b; index j on a; index k on a;"), [2, 0, 1, 2, 1])
        indexes = "index i on b, a; index j on a with b; index k on a only a = 1; index l on a;"
        self.assertEqual(self.found(ASK, indexes), [3, 0, 1, 1, 2, 3, 2])

    def test_eight_that_are_alike(self):
        indexes = "".join([f"index {name} on a;" for name in "ijklmnop"])
        self.assertEqual(self.found(ASKS, indexes), [7, 1, 0, 2, 0, 3, 0, 4, 0, 5, 0, 6, 0, 7, 0])

    def test_the_room_that_there_is_does_not_count(self):
        text = load(TABLE + ASK + "index i on a with b; index j on a;")
        self.assertEqual(run(text, room(0), outdone(), room(1000), outdone())[1:], [[0], [1, 0, 1], [1000], [1, 0, 1]])

    def test_an_index_that_is_made_counts(self):
        text = load(TABLE + ASK + "index i on a with b;")
        self.assertEqual(run(text, outdone(), make(0, 0), outdone())[1:], [[0], [1, 20, 0], [1, 0, 1]])


class Worth(unittest.TestCase):
    def test_no_such_index(self):
        for number in (-1, 2, 10 ** 18, -10 ** 18):
            self.assertEqual(run(TWO, worth(number), worth(number, 0, 1), worth(number, 1, 0))[1:], [[-3]] * 3)
        self.assertEqual(last(load("table (a);"), worth(0)), [-3])

    def test_no_such_set(self):
        for chosen in ((-1,), (2,), (0, 2), (1, 0), (0, 0), (0, 1, 1), (10 ** 18,), (1,) * 10):
            self.assertEqual(run(TWO, worth(0, *chosen), total(0, 1))[1:], [[-3], [10, 0, 40]])

    def test_in_the_set_and_not_in_it(self):
        for chosen in ((), (0,), (1,), (0, 1)):
            self.assertEqual(last(TWO, worth(0, *chosen)), [13, 0])
            self.assertEqual(last(TWO, worth(1, *chosen)), [17, 0])

    def test_beside_one_that_is_as_good_and_one_that_is_worse(self):
        text = load(TABLE + "ask q where a = 1; index i on a; index j on a; index k on b, a;")
        found = run(text, worth(0, 0, 1), worth(0, 1), worth(1, 0, 1, 2), worth(0, 2), worth(0, 0, 2), worth(2),
                    worth(2, 0), worth(0, 0))
        self.assertEqual(found[1:], [[0, 0], [0, 0], [0, 0], [3, 0], [3, 0], [10, 0], [0, 0], [13, 0]])

    def test_one_that_serves_nothing_and_one_that_is_too_dear(self):
        text = load(TABLE + "ask q where a = 1 wants b; index i on a only b = 2; index j on a; index k on a only a = 9;")
        self.assertEqual(run(text, worth(0), worth(1), worth(2), worth(0, 0, 1, 2))[1:], [[0, 0]] * 4)

    def test_all_askings_count(self):
        text = load(TABLE + "ask q where a = 1 times 1000; ask r where a = 1 times 0; index i on a;")
        self.assertEqual(run(text, worth(0), worth(0, 0))[1:], [[13000, 0]] * 2)

    def test_the_upkeep_is_told_beside_it(self):
        found = run(TWO, write(0, 2, 1, 1), write(2, 5, 1, 1, 1, 2), worth(0, 0), worth(1), worth(1, 0, 1))
        self.assertEqual(found[3:], [[13, 6], [17, 36], [17, 36]])

    def test_neither_the_room_nor_days_count(self):
        self.assertEqual(last(TWO, room(0), [3, 2, 0, 0], worth(0, 1)), [13, 0])

    def test_an_index_that_is_made_counts(self):
        self.assertEqual(run(TWO, worth(2), make(0, 0), worth(2), worth(2, 0), worth(0, 2))[1:], [
            [-3], [2, 20, 0], [13, 0], [0, 0], [0, 0]])

    def test_the_example_with_both(self):
        self.assertEqual(run(load(EXAMPLE), worth(0), worth(1, 0, 1), worth(0, 0, 1))[1:], [[185, 0], [6, 0], [0, 0]])


if __name__ == "__main__":
    unittest.main()
