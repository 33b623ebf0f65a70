"""way: what a question costs by the whole table and by indexes, promises 2 and 3."""

import unittest

from tests.helper import EXAMPLE, last, load, run, way

# Ten rows.
TABLE = "table (a, b, c); row 1, 1, 1 times 2; row 1, 2, 0 times 3; row 2, 1, 5 times 4; row 3, 3, 3 times 1; "


class WayCase(unittest.TestCase):
    def way(self, rest, *chosen):
        return last(load(TABLE + rest), way(0, *chosen))


class Refusals(unittest.TestCase):
    def test_no_such_question(self):
        for question in (-1, 2, 10 ** 18, -10 ** 18):
            self.assertEqual(last(load(EXAMPLE), way(question, 0)), [-2])
        self.assertEqual(last(load("table (a);"), way(0)), [-2])

    def test_no_such_index(self):
        for chosen in ((-1,), (2,), (0, 2), (-1, 0), (0, 1, 2), (10 ** 18,), (-10 ** 18,)):
            self.assertEqual(last(load(EXAMPLE), way(0, *chosen)), [-3])

    def test_numbers_that_do_not_rise(self):
        for chosen in ((0, 0), (1, 1), (1, 0), (0, 1, 1), (0,) * 10):
            self.assertEqual(last(load(EXAMPLE), way(0, *chosen)), [-3])

    def test_the_question_comes_ahead_of_the_set(self):
        for chosen in ((2,), (1, 0)):
            self.assertEqual(last(load(EXAMPLE), way(2, *chosen)), [-2])

    def test_nothing_is_changed_by_them(self):
        found = run(load(EXAMPLE), way(0, 0, 1), way(9), way(0, 9), way(0, 0, 1))
        self.assertEqual(found[1:], [[0, 2, 0, 0, 2], [-2], [-3], [0, 2, 0, 0, 2]])


class WholeTable(WayCase):
    def test_all_rows_are_touched(self):
        self.assertEqual(self.way("ask q;"), [-1, 10, 0, 0, 20])
        self.assertEqual(self.way("ask q where a = 2 wants b;"), [-1, 10, 0, 0, 20])

    def test_an_order_is_sorted(self):
        self.assertEqual(self.way("ask q where a = 2 by b;"), [-1, 10, 0, 4, 32])
        self.assertEqual(self.way("ask q by a;"), [-1, 10, 0, 10, 50])

    def test_an_order_that_is_not_free_touches_and_sorts_all_in_spite_of_a_limit(self):
        self.assertEqual(self.way("ask q where b from 1 to 2 by a first 1;"), [-1, 10, 0, 9, 47])
        self.assertEqual(self.way("ask q where a from 1 to 2 by a first 1;"), [-1, 10, 0, 9, 47])

    def test_an_order_of_equal_columns_is_free(self):
        self.assertEqual(self.way("ask q where a = 1 by a;"), [-1, 10, 0, 0, 20])
        self.assertEqual(self.way("ask q where a = 2 and b from 1 to 1 by b, a first 3;"), [-1, 8, 0, 0, 16])

    def test_a_limit_ends_it_with_the_row_by_which_it_is_reached(self):
        self.assertEqual(self.way("ask q first 1;"), [-1, 1, 0, 0, 2])
        self.assertEqual(self.way("ask q first 5;"), [-1, 5, 0, 0, 10])
        self.assertEqual(self.way("ask q first 10;"), [-1, 10, 0, 0, 20])
        self.assertEqual(self.way("ask q first 1000000;"), [-1, 10, 0, 0, 20])
        self.assertEqual(self.way("ask q where b = 1 first 2;"), [-1, 2, 0, 0, 4])
        self.assertEqual(self.way("ask q where b = 1 first 3;"), [-1, 6, 0, 0, 12])

    def test_backwards_changes_nothing_there(self):
        self.assertEqual(self.way("ask q where a = 3 by a back first 1;"), [-1, 10, 0, 0, 20])
        self.assertEqual(self.way("ask q where b = 1 by b back first 1;"), [-1, 1, 0, 0, 2])

    def test_no_row_found(self):
        self.assertEqual(self.way("ask q where a = 7 by b first 2;"), [-1, 10, 0, 0, 20])

    def test_a_table_without_rows(self):
        self.assertEqual(last(load("table (a); ask q by a; index i on a;"), way(0, 0)), [-1, 0, 0, 0, 0])


class Ties(WayCase):
    def test_the_whole_table_comes_first(self):
        self.assertEqual(self.way("ask q where a = 2 wants b; index i on a;", 0), [-1, 10, 0, 0, 20])

    def test_then_the_index_with_the_least_number(self):
        rest = "ask q where a = 1; index i on b; index j on a, b; index k on a;"
        self.assertEqual(self.way(rest, 0, 1, 2), [1, 5, 0, 0, 5])
        self.assertEqual(self.way(rest, 0, 2), [2, 5, 0, 0, 5])
        self.assertEqual(self.way(rest, 0), [-1, 10, 0, 0, 20])

    def test_a_cheaper_one_behind_is_taken(self):
        rest = "ask q where a = 1 and b = 2; index i on a with b; index j on a, b;"
        self.assertEqual(self.way(rest, 0), [0, 5, 0, 0, 5])
        self.assertEqual(self.way(rest, 0, 1), [1, 3, 0, 0, 3])

    def test_one_that_is_not_in_the_set_is_not_taken(self):
        self.assertEqual(self.way("ask q where a = 1; index i on a;"), [-1, 10, 0, 0, 20])

    def test_how_often_it_is_asked_does_not_count(self):
        for often in (0, 7):
            self.assertEqual(self.way(f"ask q where a = 1 times {often}; index i on a;", 0), [0, 5, 0, 0, 5])


class Conditions(WayCase):
    def test_one_that_serves(self):
        for condition in ("a = 1", "a from 1 to 1", "a from 0 to 1", "a from 1 to 9"):
            rest = f"ask q where a = 1 and b = 1; index i on b with a only {condition};"
            touched = 6 if condition == "a from 1 to 9" else 2
            self.assertEqual(self.way(rest, 0), [0, touched, 0, 0, touched])

    def test_one_of_the_same_range(self):
        rest = "ask q where a from 1 to 2; index i on a only a from 1 to 2;"
        self.assertEqual(self.way(rest, 0), [0, 9, 0, 0, 9])

    def test_one_that_does_not(self):
        for filters, condition in (
            ("a = 1", "a = 2"), ("a from 1 to 2", "a = 1"), ("a from 1 to 2", "a = 2"), ("a from 0 to 1", "a = 1"),
            ("a from 1 to 3", "a from 1 to 2"), ("a from 0 to 2", "a from 1 to 2"), ("b = 1", "a = 1"),
        ):
            rest = f"ask q where {filters}; index i on a, b only {condition};"
            self.assertEqual(self.way(rest, 0), [-1, 10, 0, 0, 20], rest)
        self.assertEqual(self.way("ask q; index i on a only a from 0 to 9;", 0), [-1, 10, 0, 0, 20])

    def test_the_conditions_column_is_not_the_indexs_own(self):
        rest = "ask q where a = 3; index i on b only a = 3;"
        self.assertEqual(self.way(rest, 0), [0, 1, 1, 0, 5])

    def test_filters_of_other_columns_are_known_only_when_looked_up(self):
        rest = "ask q where a from 3 to 4 and b = 3; index i on b only a from 2 to 4;"
        self.assertEqual(self.way(rest, 0), [0, 1, 1, 0, 5])
        rest = "ask q where a from 3 to 4; index i on b only a from 2 to 4;"
        self.assertEqual(self.way(rest, 0), [-1, 10, 0, 0, 20])


class LookUps(WayCase):
    def test_covered_by_keys_and_included_ones(self):
        rest = "ask q where a = 3 by b wants c; "
        self.assertEqual(self.way(rest + "index i on a, b, c;", 0), [0, 1, 0, 0, 1])
        self.assertEqual(self.way(rest + "index i on a, b with c;", 0), [0, 1, 0, 0, 1])

    def test_not_covered_for_a_filter_an_order_or_a_wanted_column(self):
        self.assertEqual(self.way("ask q where a = 3 and b = 3; index i on a;", 0), [0, 1, 1, 0, 5])
        self.assertEqual(self.way("ask q where a = 3 by b; index i on a;", 0), [0, 1, 1, 1, 8])
        self.assertEqual(self.way("ask q where a = 3 wants b; index i on a;", 0), [0, 1, 1, 0, 5])

    def test_only_those_that_pass_the_filters_of_its_own_columns(self):
        rest = "ask q where a from 1 to 3 and b = 3 wants c; index i on a with b;"
        self.assertEqual(self.way(rest, 0), [0, 10, 1, 0, 14])
        rest = "ask q where a from 1 to 3 and b = 2 and c = 9; index i on a, b;"
        self.assertEqual(self.way(rest, 0), [-1, 10, 0, 0, 20])

    def test_those_that_turn_out_not_to_be_found(self):
        rest = "ask q where a = 1 and c = 1 first 2; index i on a;"
        self.assertEqual(self.way(rest, 0), [-1, 2, 0, 0, 4])
        rest = "ask q where b = 3 and c = 0; index i on b;"
        self.assertEqual(self.way(rest, 0), [0, 1, 1, 0, 5])


class Ranges(WayCase):
    def test_equal_filters_then_one_that_is_not(self):
        rest = "ask q where a = 1 and b from 2 to 9 and c = 0; index i on a, b, c;"
        self.assertEqual(self.way(rest, 0), [0, 3, 0, 0, 3])

    def test_keys_behind_a_filter_that_is_not_equal_do_not_count(self):
        rest = "ask q where a from 1 to 2 and b = 1; index i on a, b;"
        self.assertEqual(self.way(rest, 0), [0, 9, 0, 0, 9])

    def test_keys_behind_one_without_a_filter_do_not_count(self):
        rest = "ask q where b = 1; index i on a, b;"
        self.assertEqual(self.way(rest, 0), [0, 10, 0, 0, 10])
        rest = "ask q where a = 1 and c = 0; index i on a, b, c;"
        self.assertEqual(self.way(rest, 0), [0, 5, 0, 0, 5])

    def test_no_entry_in_the_range(self):
        self.assertEqual(self.way("ask q where a = 7 by b first 3 ; index i on a;", 0), [0, 0, 0, 0, 0])
        self.assertEqual(self.way("ask q where a = 1; index i on a only a = 1; index j on a;", 0), [0, 5, 0, 0, 5])
        self.assertEqual(self.way("ask q where a = 7; index i on b only a = 7;", 0), [0, 0, 0, 0, 0])


class Orders(WayCase):
    def test_free_without_a_limit(self):
        self.assertEqual(self.way("ask q by b; index i on b;", 0), [0, 10, 0, 0, 10])

    def test_free_with_a_limit_within_a_group(self):
        self.assertEqual(self.way("ask q by b wants a first 1; index i on b;", 0), [0, 1, 1, 0, 5])
        self.assertEqual(self.way("ask q by b first 7; index i on b;", 0), [0, 7, 0, 0, 7])
        self.assertEqual(self.way("ask q by b first 10; index i on b;", 0), [0, 10, 0, 0, 10])
        self.assertEqual(self.way("ask q by b first 11; index i on b;", 0), [0, 10, 0, 0, 10])

    def test_entries_are_touched_in_the_keys_order(self):
        rest = "ask q where c from 3 to 9 by b first 1; index i on b, c;"
        self.assertEqual(self.way(rest, 0), [0, 3, 0, 0, 3])
        rest = "ask q where c from 3 to 9 by b first 1; index i on b, a with c;"
        self.assertEqual(self.way(rest, 0), [0, 3, 0, 0, 3])

    def test_those_alike_in_all_keys_as_they_lie(self):
        rest = "ask q where c = 5 by b first 1; index i on b with c;"
        self.assertEqual(self.way(rest, 0), [0, 3, 0, 0, 3])
        rest = "ask q where c = 1 by b first 1; index i on b with c;"
        self.assertEqual(self.way(rest, 0), [0, 1, 0, 0, 1])

    def test_backwards_all_of_it(self):
        rest = "ask q where c = 5 by b back first 1; index i on b with c;"
        self.assertEqual(self.way(rest, 0), [0, 5, 0, 0, 5])
        rest = "ask q where c = 1 by b back first 1; index i on b with c;"
        self.assertEqual(self.way(rest, 0), [0, 9, 0, 0, 9])
        rest = "ask q by a back wants b first 2; index i on a;"
        self.assertEqual(self.way(rest, 0), [0, 2, 2, 0, 10])

    def test_backwards_with_an_order_of_equal_columns(self):
        rest = "ask q where b = 1 and c = 5 by b back first 1; index i on b with c;"
        self.assertEqual(self.way(rest, 0), [0, 1, 0, 0, 1])
        rest = "ask q where b = 1 and c = 1 by b back first 1; index i on b with c;"
        self.assertEqual(self.way(rest, 0), [-1, 1, 0, 0, 2])

    def test_columns_with_equal_filters_do_not_count(self):
        rest = "ask q where b = 1 by a, b, c first 1; index i on b, a, c;"
        self.assertEqual(self.way(rest, 0), [0, 1, 0, 0, 1])
        rest = "ask q where b = 1 by a, c first 1; index i on a, b, c;"
        self.assertEqual(self.way(rest, 0), [0, 1, 0, 0, 1])
        rest = "ask q where b = 1 by b, a first 5; index i on a with b;"
        self.assertEqual(self.way(rest, 0), [0, 8, 0, 0, 8])

    def test_a_filter_that_is_not_equal_counts(self):
        rest = "ask q where b from 1 to 2 by a first 1; index i on b, a;"
        self.assertEqual(self.way(rest, 0), [0, 9, 0, 9, 36])

    def test_sorted_ones(self):
        for order in ("b", "b, a", "a, c", "c, a, b"):
            rest = f"ask q where a from 2 to 3 by {order} wants b, c first 1; index i on a, b, c;"
            self.assertEqual(self.way(rest, 0), [0, 5, 0, 5, 20])
        for order in ("a", "a, b", "a, b, c"):
            rest = f"ask q where a from 2 to 3 by {order} wants b, c first 1; index i on a, b, c;"
            self.assertEqual(self.way(rest, 0), [0, 1, 0, 0, 1])

    def test_a_longer_order_than_the_keys_is_sorted(self):
        rest = "ask q where a = 1 by b, c first 1; index i on a, b with c;"
        self.assertEqual(self.way(rest, 0), [0, 5, 0, 5, 20])

    def test_only_rows_found_are_sorted(self):
        rest = "ask q where a from 2 to 3 and c = 3 by b; index i on a with b, c;"
        self.assertEqual(self.way(rest, 0), [0, 5, 0, 1, 8])
        rest = "ask q where a from 2 to 3 and c = 4 by b; index i on a with b;"
        self.assertEqual(self.way(rest, 0), [-1, 10, 0, 0, 20])


if __name__ == "__main__":
    unittest.main()
