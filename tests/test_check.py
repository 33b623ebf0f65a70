"""check: promises 3 and 4, and what the words say of proofs."""

import unittest

from tests.helper import EXAMPLE, check, last, least, load, make, prove, room, run, write

# Ten rows; with a the question q costs 7, with b the question r costs 3, without any index each costs 20.
TABLE = "table (a, b); row 1, 1 times 6; row 1, 2 times 1; row 2, 2 times 2; row 3, 3 times 1; "
ASKS = "ask q where a = 1; ask r where b = 2; "
TWO = load(TABLE + ASKS + "index i on a; index j on b;")
EIGHT = load(TABLE + ASKS + "".join([f"index {name} on a;" for name in "ijklmnop"]))
HUGE = 10 ** 18


def whole_tree(depth):
    return [1] if depth == 0 else [0, *whole_tree(depth - 1), *whole_tree(depth - 1)]


class Form(unittest.TestCase):
    WRONG = (
        (), (0,), (0, 1), (0, 2), (0, 0, 1, 1), (0, 1, 0, 1), (1, 1), (1, 0), (2, 1, 1), (0, 1, 1, 1), (0, 2, 1, 0),
        (3,), (-1,), (0, 3, 1), (0, 1, 3), (0, 1, -1), (HUGE,), (0, 1, -HUGE), (1, 3), (0,) * 600, (1,) * 600,
    )

    def test_lists_that_are_no_whole_proof(self):
        for proof in self.WRONG:
            self.assertEqual(last(TWO, room(40), check(0, *proof)), [-4], proof)

    def test_a_list_that_is_no_proof_is_refused_though_a_part_does_not_hold(self):
        self.assertEqual(last(TWO, check(HUGE, 0, 1, 1, 1)), [-4])
        self.assertEqual(last(TWO, check(0, 2, 2)), [-4])
        self.assertEqual(last(load("table (a);"), check(0, 0, 1)), [-4])

    def test_nothing_is_changed_by_it(self):
        found = run(TWO, room(20), check(5), check(-1, 1), prove(), check(23, 0, 0, 2, 1, 1))
        self.assertEqual(found[2:], [[-4], [-5], [23, 3, 0, 0, 2, 1, 1], [1]])

    def test_splits_nine_deep_are_a_proof(self):
        for proof in ([0] * 9 + [1] * 10, [0, 1] * 9 + [1], [0, 1, 0] * 4 + [0] + [1] * 6):
            self.assertEqual(last(EIGHT, room(1000), check(0, *proof)), [0], proof)
            self.assertEqual(last(load("table (a);"), check(0, *proof)), [0], proof)

    def test_splits_ten_deep_are_none(self):
        for proof in ([0] * 10 + [1] * 11, [0, 1] * 10 + [1], [0, 1, 0] * 5 + [1] * 6):
            self.assertEqual(last(EIGHT, room(1000), check(0, *proof)), [-4], proof)
            self.assertEqual(last(load("table (a);"), check(0, *proof)), [-4], proof)

    def test_splits_beside_one_another_are_not_deep(self):
        proof = [0, 0, 0, 1, 1, 0, 1, 1, 0, 0, 1, 1, 0, 1, 1]
        self.assertEqual(last(EIGHT, room(1000), check(0, *proof)), [1])

    def test_long_proofs(self):
        self.assertEqual(len(whole_tree(8)), 511)
        self.assertEqual(last(EIGHT, room(1000), check(0, *whole_tree(8))), [1])
        self.assertEqual(last(EIGHT, room(1000), check(0, *whole_tree(8)[:-1])), [-4])
        self.assertEqual(last(EIGHT, room(1000), check(0, *whole_tree(8), 1)), [-4])
        nine_deep = [0, *whole_tree(8), *whole_tree(5)]
        self.assertEqual(len(nine_deep), 575)
        self.assertEqual(last(EIGHT, room(1000), check(0, *nine_deep)), [0])
        self.assertEqual(last(EIGHT, room(1000), check(0, *nine_deep, *[1] * 25)), [-4])


class Costs(unittest.TestCase):
    def test_below_zero(self):
        for cost in (-1, -HUGE):
            self.assertEqual(last(TWO, check(cost, 1)), [-5])

    def test_that_comes_ahead_of_no_proof(self):
        for proof in ((), (3,), (0, 1)):
            self.assertEqual(last(TWO, check(-1, *proof)), [-5])

    def test_zero_and_what_is_greater_than_all_sets_cost(self):
        self.assertEqual(last(TWO, room(40), check(0, 1)), [1])
        for cost in (41, 10 ** 9, 10 ** 9 + 1, HUGE):
            for proof in ((1,), (0, 1, 1), (0, 0, 1, 1, 0, 1, 1), (0, 0, 2, 1, 0, 1, 1), (2,), (0, 2, 2)):
                self.assertEqual(last(TWO, room(20), check(cost, *proof)), [0], (cost, proof))


class Accepted(unittest.TestCase):
    def test_the_proof_that_is_made(self):
        for number in (0, 19, 20, 39, 40, 1000000000):
            made = last(TWO, room(number), prove())
            for cost, expected in ((made[0] - 1, 1), (made[0], 1), (made[0] + 1, 0)):
                self.assertEqual(last(TWO, room(number), check(cost, *made[2:])), [expected], number)

    def test_another_than_the_one_that_is_made(self):
        self.assertEqual(last(TWO, room(40), check(10, 0, 0, 1, 1, 0, 1, 1)), [1])
        self.assertEqual(last(TWO, room(40), check(9, 0, 1, 1)), [1])

    def test_a_bound_counts_all_that_are_not_looked_at(self):
        self.assertEqual(run(TWO, check(10, 1), check(11, 1))[1:], [[1], [0]])

    def test_a_bound_with_an_index_left_out(self):
        # Without a: 20 and 3; without b: 7 and 20; without both 40.
        self.assertEqual(run(TWO, check(10, 0, 1, 1), check(11, 0, 1, 1))[1:], [[1], [0]])
        self.assertEqual(run(TWO, check(23, 0, 0, 1, 1, 1), check(23, 0, 0, 2, 1, 1))[1:], [[0], [1]])
        self.assertEqual(run(TWO, check(24, 0, 0, 2, 1, 1), check(24, 0, 0, 2, 1, 0, 2, 1))[1:], [[0], [1]])
        self.assertEqual(run(TWO, check(27, 0, 2, 0, 2, 1), check(40, 0, 2, 0, 2, 1), check(41, 0, 2, 0, 2, 1))[1:],
                         [[1], [1], [0]])

    def test_a_bound_counts_the_upkeep_of_chosen_ones_alone(self):
        written = [TWO, room(40), write(0, 2, 1, 1)]
        self.assertEqual(run(*written, check(10, 1), check(11, 1))[3:], [[1], [0]])
        self.assertEqual(run(*written, check(16, 0, 1, 1), check(17, 0, 1, 1))[3:], [[1], [0]])
        self.assertEqual(run(*written, check(22, 0, 0, 1, 1, 1), check(23, 0, 0, 1, 1, 1))[3:], [[1], [0]])

    def test_a_room_that_holds_and_that_does_not(self):
        self.assertEqual(last(TWO, room(19), check(10, 0, 2, 1)), [1])
        self.assertEqual(last(TWO, room(20), check(10, 0, 2, 1)), [0])
        self.assertEqual(last(TWO, room(39), check(10, 0, 0, 2, 1, 1)), [1])
        self.assertEqual(last(TWO, room(40), check(10, 0, 0, 2, 1, 1)), [0])

    def test_a_room_with_none_chosen_never_holds(self):
        self.assertEqual(run(TWO, check(0, 2), check(0, 0, 2, 2), check(0, 0, 1, 2))[1:], [[0], [0], [0]])

    def test_the_first_part_is_the_one_with_the_index(self):
        self.assertEqual(run(TWO, check(0, 0, 2, 1), check(0, 0, 1, 2))[1:], [[1], [0]])

    def test_a_split_with_no_index_to_look_at(self):
        self.assertEqual(run(load("table (a);"), check(0, 1), check(0, 0, 1, 1))[1:], [[1], [0]])
        self.assertEqual(last(TWO, room(40), check(0, 0, 0, 1, 1, 0, 1, 1)), [1])
        self.assertEqual(last(TWO, room(40), check(0, 0, 0, 0, 1, 1, 1, 1)), [0])
        self.assertEqual(last(TWO, room(40), check(0, 0, 1, 0, 1, 0, 1, 1)), [0])

    def test_eight_indexes_are_all_looked_at(self):
        self.assertEqual(last(EIGHT, room(1000), check(0, *[0] * 8, *[1] * 9)), [1])
        self.assertEqual(last(EIGHT, room(1000), check(0, *[0, 1] * 8, 1)), [1])

    def test_one_part_that_does_not_hold_is_enough(self):
        self.assertEqual(last(TWO, room(40), check(23, 0, 0, 1, 1, 0, 1, 1)), [0])
        self.assertEqual(last(TWO, room(40), check(10, 0, 0, 1, 1, 0, 2, 1)), [0])
        self.assertEqual(last(TWO, room(40), check(10, 0, 0, 1, 1, 0, 1, 2)), [0])

    def test_a_question_that_is_not_asked(self):
        text = load(TABLE + "ask q where a = 1 times 0; index i on a;")
        self.assertEqual(run(text, check(0, 1), check(1, 1), check(1, 0, 2, 1))[1:], [[1], [0], [0]])

    def test_the_least_cost_of_the_example_with_another_index(self):
        calls = [load(EXAMPLE), room(60), write(0, 1, 1, 5), check(27, 0, 1, 0, 1, 1), make(1, 0), least()]
        self.assertEqual(run(*calls, check(27, 0, 1, 0, 1, 0, 1, 1))[3:], [[1], [2, 20, 3], [27, 1, 1, 1], [1]])


if __name__ == "__main__":
    unittest.main()
