"""total, least and prove: promises 2 and 3."""

import unittest

from tests.helper import EXAMPLE, last, least, load, prove, room, run, total, write

# Ten rows; with a the question q costs 7, with b the question r costs 3, without any index each costs 20.
TABLE = "table (a, b); row 1, 1 times 6; row 1, 2 times 1; row 2, 2 times 2; row 3, 3 times 1; "
ASKS = "ask q where a = 1; ask r where b = 2; "


class Totals(unittest.TestCase):
    def test_no_such_index_or_numbers_that_do_not_rise(self):
        for chosen in ((-1,), (2,), (0, 2), (1, 0), (0, 0), (0, 1, 1), (10 ** 18,), (0,) * 10):
            self.assertEqual(run(load(EXAMPLE), total(*chosen), total(1))[1:], [[-3], [24, 0, 30]])
        self.assertEqual(last(load("table (a);"), total(0)), [-3])

    def test_no_index_at_all(self):
        self.assertEqual(last(load(TABLE + ASKS), total()), [40, 0, 0])
        self.assertEqual(last(load("table (a);"), total()), [0, 0, 0])

    def test_askings_are_counted_so_often(self):
        text = TABLE + "ask q where a = 1 times 0; ask r where b = 2 times 1000; index i on a; index j on b;"
        self.assertEqual(run(load(text), total(), total(0), total(1), total(0, 1))[1:],
                         [[20000, 0, 0], [20000, 0, 20], [3000, 0, 20], [3000, 0, 40]])

    def test_rooms(self):
        text = TABLE + ("index i on a; index j on a, b; index k on b with a; index l on a only b = 2; "
                        "index m on a with b only b from 2 to 3; index n on a only a = 9;")
        for number, expected in enumerate((20, 30, 30, 6, 12, 0)):
            self.assertEqual(last(load(text), total(number)), [0, 0, expected])
        self.assertEqual(last(load(text), total(0, 1, 2, 3, 4, 5)), [0, 0, 98])

    def test_it_need_not_be_within_the_room(self):
        self.assertEqual(last(load(EXAMPLE), room(0), total(0, 1)), [24, 0, 60])


class Upkeep(unittest.TestCase):
    INDEXES = "index i on a; index j on b with a; index k on a only b = 5; index l on a only b from 5 to 7;"
    TEXT = "table (a, b, c); " + INDEXES

    def upkeeps(self, *writes):
        calls = [load(self.TEXT)] + [write(*told) for told in writes]
        return [last(*calls, total(number))[1] for number in range(4)]

    def test_none(self):
        self.assertEqual(self.upkeeps(), [0, 0, 0, 0])

    def test_put_in_and_taken_out(self):
        for sort in (0, 1):
            self.assertEqual(self.upkeeps((sort, 10, 1, 5, 0)), [30, 30, 30, 30])
            self.assertEqual(self.upkeeps((sort, 10, 1, 7, 0)), [30, 30, 0, 30])
            self.assertEqual(self.upkeeps((sort, 10, 1, 8, 0)), [30, 30, 0, 0])

    def test_made_others_within_no_condition(self):
        self.assertEqual(self.upkeeps((2, 1, 1, 0, 0, 2, 0, 0))[:2], [6, 6])
        self.assertEqual(self.upkeeps((2, 1, 1, 0, 0, 1, 1, 0))[:2], [0, 6])
        self.assertEqual(self.upkeeps((2, 1, 1, 0, 0, 1, 0, 1))[:2], [0, 0])

    def test_included_columns_count(self):
        self.assertEqual(self.upkeeps((2, 1, 1, 0, 0, 2, 0, 0))[1], 6)

    def test_made_others_with_a_condition(self):
        self.assertEqual(self.upkeeps((2, 1, 1, 5, 0, 2, 5, 0))[2:], [6, 6])
        self.assertEqual(self.upkeeps((2, 1, 1, 5, 0, 1, 5, 1))[2:], [0, 0])
        self.assertEqual(self.upkeeps((2, 1, 1, 5, 0, 1, 6, 0))[2:], [3, 0])
        self.assertEqual(self.upkeeps((2, 1, 1, 6, 0, 1, 5, 0))[2:], [3, 0])
        self.assertEqual(self.upkeeps((2, 1, 1, 5, 0, 2, 6, 0))[2:], [3, 6])
        self.assertEqual(self.upkeeps((2, 1, 1, 8, 0, 2, 9, 0))[2:], [0, 0])

    def test_made_the_same(self):
        self.assertEqual(self.upkeeps((2, 1000000, 1, 5, 0, 1, 5, 0)), [0, 0, 0, 0])

    def test_all_writes_together(self):
        told = ((0, 1, 1, 5, 0), (1, 2, 1, 6, 0), (2, 1000000, 1, 5, 0, 2, 8, 0))
        self.assertEqual(self.upkeeps(*told), [6000009, 6000009, 3000003, 3000009])
        calls = [load(self.TEXT)] + [write(*one) for one in told]
        self.assertEqual(last(*calls, total(0, 2)), [0, 9000012, 0])
        self.assertEqual(last(*calls, total()), [0, 0, 0])


class Least(unittest.TestCase):
    def test_no_index_at_all(self):
        self.assertEqual(last(load(TABLE + ASKS), least()), [40, 1, 0])
        self.assertEqual(last(load("table (a);"), room(5), least()), [0, 1, 0])

    def test_a_room_that_lets_in_no_index_some_or_all(self):
        text = load(TABLE + ASKS + "index i on a; index j on b;")
        self.assertEqual(last(text, least()), [40, 1, 0])
        self.assertEqual(last(text, room(19), least()), [40, 1, 0])
        self.assertEqual(last(text, room(20), least()), [23, 1, 1, 1])
        self.assertEqual(last(text, room(39), least()), [23, 1, 1, 1])
        self.assertEqual(last(text, room(40), least()), [10, 1, 2, 0, 1])
        self.assertEqual(last(text, room(1000000000), least()), [10, 1, 2, 0, 1])

    def test_several_least_sets_in_order(self):
        text = TABLE + "ask q where a = 1; index i on a, b; index j on a; index k on a with b;"
        self.assertEqual(last(load(text), room(1000), least()), [7, 7, 1, 0])
        self.assertEqual(last(load(text), room(20), least()), [7, 1, 1, 1])
        self.assertEqual(last(load(text), room(50), least()), [7, 5, 1, 0])

    def test_fewer_indexes_come_first(self):
        text = TABLE + ASKS + "index i on a; index j on b; index k on a with b; index l on b with a; index m on b, a;"
        self.assertEqual(last(load(text), room(1000), least()), [10, 21, 2, 0, 1])
        both = TABLE + "ask q where a = 1 wants b; index i on b; index j on a, b;"
        self.assertEqual(last(load(both), room(1000), least()), [7, 2, 1, 1])

    def test_indexes_that_are_no_use_but_free_of_upkeep(self):
        text = TABLE + "ask q where a = 1 wants b; index i on a;"
        self.assertEqual(last(load(text), room(1000), least()), [20, 2, 0])

    def test_an_index_without_entries_is_within_no_room_at_all(self):
        text = TABLE + "ask q where a = 7; index i on b; index j on b only a = 7;"
        self.assertEqual(last(load(text), room(0), least()), [0, 1, 1, 1])

    def test_a_question_that_is_not_asked(self):
        text = TABLE + "ask q where a = 1 times 0; index i on a;"
        self.assertEqual(last(load(text), room(1000), least()), [0, 2, 0])

    def test_upkeep_counts(self):
        text = load(TABLE + "ask q where a = 1; index i on a;")
        self.assertEqual(last(text, room(1000), write(0, 4, 1, 1), least()), [19, 1, 1, 0])
        self.assertEqual(last(text, room(1000), write(0, 5, 1, 1), least()), [20, 1, 0])
        self.assertEqual(last(text, room(1000), write(2, 2, 1, 1, 2, 1), least()), [19, 1, 1, 0])
        self.assertEqual(last(text, room(1000), write(2, 9, 1, 1, 1, 2), least()), [7, 1, 1, 0])

    def test_upkeep_at_the_same_cost(self):
        text = load(TABLE + "ask q where b = 1 times 3; index i on b only b = 1;")
        self.assertEqual(last(text, room(1000), write(0, 14, 1, 1), least()), [60, 2, 0])
        self.assertEqual(last(text, room(1000), write(0, 14, 1, 2), least()), [18, 1, 1, 0])

    def test_days_do_not_count(self):
        self.assertEqual(last(load(EXAMPLE), room(60), [3, 2, 0, 0], least()), [24, 2, 1, 1])


class Proofs(unittest.TestCase):
    def test_no_index_at_all(self):
        self.assertEqual(last(load(TABLE + ASKS), prove()), [40, 1, 1])

    def test_a_bound_at_once(self):
        text = load(TABLE + ASKS + "index i on a; index j on b;")
        self.assertEqual(last(text, room(40), prove()), [10, 1, 1])

    def test_a_room_that_lets_in_no_index(self):
        text = load(TABLE + ASKS + "index i on a; index j on b;")
        self.assertEqual(last(text, prove()), [40, 3, 0, 2, 0, 2, 1])

    def test_a_room_that_lets_in_some(self):
        text = load(TABLE + ASKS + "index i on a; index j on b;")
        self.assertEqual(last(text, room(20), prove()), [23, 3, 0, 0, 2, 1, 1])

    def test_room_comes_ahead_of_bound(self):
        text = load(TABLE + "ask q where a = 1; index i on a; index j on a only a = 1;")
        self.assertEqual(last(text, room(15), prove()), [7, 1, 1])
        self.assertEqual(last(text, room(14), write(0, 1, 1, 1), prove()), [10, 3, 0, 2, 0, 1, 1])

    def test_upkeeps_of_chosen_ones_alone_count(self):
        text = load(TABLE + ASKS + "index i on a; index j on b;")
        self.assertEqual(last(text, room(40), write(0, 2, 1, 1), prove()), [22, 3, 0, 0, 1, 1, 1])

    def test_the_deepest(self):
        asks = "".join([f"ask q{column} where {column} = 1;" for column in "abcd"])
        indexes = "".join([f"index i{column}{sort} on {column};" for column in "abcd" for sort in "xy"])
        text = load("table(a,b,c,d);row 1,1,1,1 times 1;row 0,0,0,0 times 9;" + asks + indexes)
        self.assertEqual(last(text, prove()), [80, 9] + [0, 2] * 8 + [1])


if __name__ == "__main__":
    unittest.main()
