"""load: promise 1, and the words' Texts."""

import unittest

from tests.helper import EXAMPLE, answer, day, last, least, load, room, run, total, way, write

HEAD = "table (a, b); "
ROW = "row 1, 5 times 3; "
NAMES = "abcdefghijklmnopqrstuvwxyz"


class LoadCase(unittest.TestCase):
    def good(self, text, *counts):
        self.assertEqual(last(load(text)), [0, *counts])

    def fault(self, kind, marked):
        """The fault is to stand where the text has its mark ^, which isn't loaded itself."""
        text = marked.replace("^", "", 1)
        self.assertEqual(last(load(text)), [1, kind, marked.index("^")], text)


class Length(LoadCase):
    def test_1200_bytes_are_taken(self):
        self.good(EXAMPLE + " " * (1200 - len(EXAMPLE)), 2, 4, 2, 2)

    def test_more_are_refused(self):
        for length in (1201, 1300):
            self.assertEqual(last(load(EXAMPLE + " " * (length - len(EXAMPLE)))), [-1])

    def test_too_long_comes_ahead_of_a_fault(self):
        self.assertEqual(last(load("#" * 1201)), [-1])
        self.assertEqual(last(load("#" * 1200)), [1, 1, 0])


class WholeTexts(LoadCase):
    def test_least_text(self):
        self.good("table(a);", 1, 0, 0, 0)

    def test_blanks_and_line_ends_mean_nothing(self):
        self.good(" \n table\n(\na , b ) ;\nrow 1 ,\n2 times\n7\n;\n ask q ; index i on a ;\n", 2, 1, 1, 1)

    def test_no_blank_is_needed_where_signs_digits_and_letters_meet(self):
        self.good("table(a,b);row1,2times7;ask q where a=1and b from2to3by b back first5times6;", 2, 1, 1, 0)

    def test_all_parts_of_a_question(self):
        self.good(HEAD + "ask q where a = 1 and b from 2 to 9 by b, a back wants a, b first 7 times 0;", 2, 0, 1, 0)

    def test_each_part_of_a_question_alone(self):
        for part in ("where a = 0", "by a", "by b back", "wants b", "first 1", "times 1000"):
            self.good(HEAD + "ask q " + part + ";", 2, 0, 1, 0)

    def test_all_parts_of_an_index(self):
        self.good(HEAD + "index i on a with b only b from 0 to 9;", 2, 0, 0, 1)

    def test_same_word_for_a_column_a_question_and_an_index(self):
        self.good(HEAD + "ask a; index a on a;", 2, 0, 1, 1)

    def test_greatest_counts_of_all(self):
        rows = "".join([f"row {value % 10},{value // 10},0,0 times 1;" for value in range(12)])
        asks = "".join([f"ask {name};" for name in NAMES[:6]])
        indexes = "".join([f"index {name} on a;" for name in NAMES[:8]])
        self.good("table(a,b,c,d);" + rows + asks + indexes, 4, 12, 6, 8)


class FaultOne(LoadCase):
    def test_other_bytes(self):
        for sign in "A\t\r#.-'\x00\xe9\xff{`":
            self.fault(1, HEAD + "^" + sign)

    def test_runs_of_seven_and_eight_letters(self):
        self.good("table (abcdefg); ask zzzzzzz;", 1, 0, 1, 0)
        self.fault(1, "table (^abcdefgh);")

    def test_runs_of_seven_and_eight_digits(self):
        self.good(HEAD + "row 1, 5 times 1000000;", 2, 1, 0, 0)
        self.fault(3, HEAD + "row 1, 5 times ^9999999;")
        self.fault(1, HEAD + "row 1, 5 times ^10000000;")

    def test_zero_in_front(self):
        self.good(HEAD + "row 0, 0 times 1;", 2, 1, 0, 0)
        self.fault(1, HEAD + "row ^00, 0 times 1;")
        self.fault(1, HEAD + "row 0, ^05 times 1;")

    def test_counts_ahead_of_all_others_wherever_it_stands(self):
        self.fault(1, "row table ) ^#")
        self.fault(1, "table (a, a); ^?")
        self.fault(1, HEAD + "row 1, 99 times 3; ^abcdefgh")
        self.fault(1, "table (a, b, c, d, e); ^01")

    def test_first_of_several(self):
        self.fault(1, HEAD + "^% & abcdefgh")


class FaultTwo(LoadCase):
    def test_empty_text(self):
        self.fault(2, "^")
        self.fault(2, "  \n^")

    def test_at_the_texts_end_behind_all_blanks(self):
        whole = "table ( a , b ) ; row 1 , 5 times 3 ; ask q where a = 1 ; index i on a ;"
        ends = [whole.index(word) + len(word) for word in (") ;", "times 3 ;", "= 1 ;", "on a ;")]
        for end, sign in enumerate(whole + " "):
            text = whole[:end] + " \n "
            if sign == " " and end not in ends:
                self.fault(2, text + "^")

    def test_at_the_first_token_that_cannot_stand(self):
        for marked in (
            "^a", "table ^a", "table (^)", "table (^row);", "table (a ^b);", "table (a,^)", "table (a,^,b)",
            "table (a) ^row", "table (a); ^;", "table (a); ^table (a);", "table (a); ^q",
        ):
            self.fault(2, marked)

    def test_in_a_row(self):
        for marked in (
            "row ^a", "row ^, 1", "row 1 ^2", "row 1 ^times 3;", "row 1, 2^, 3 times 1;", "row 1, 2 ^; ",
            "row 1, 2 times ^;", "row 1, 2 times ^a;", "row 1, 2 times 3 ^times 3;",
        ):
            self.fault(2, HEAD + marked)

    def test_in_a_question(self):
        for marked in (
            "ask ^;", "ask ^by;", "ask ^1;", "ask q ^a", "ask q where ^;", "ask q where ^by", "ask q where a ^to",
            "ask q where a ^1", "ask q where a = ^b", "ask q where a from 1 ^;", "ask q where a from 1 to ^;",
            "ask q where a = 1 ^, b = 1;", "ask q where a = 1 and ^;", "ask q by ^;", "ask q by a,^;",
            "ask q by a ^b;", "ask q ^back;", "ask q by a back ^, b;", "ask q wants ^back;", "ask q wants a ^back;",
            "ask q first ^;", "ask q first ^a;", "ask q times ^;", "ask q times 1 ^first 2;", "ask q first 2 ^by a;",
            "ask q wants a ^by a;", "ask q by a ^where a = 1;", "ask q ^on a;", "ask q first ^",
        ):
            self.fault(2, HEAD + marked)

    def test_in_an_index(self):
        for marked in (
            "index ^;", "index ^on;", "index i ^;", "index i ^with a;", "index i on ^;", "index i on a ^where a = 1;",
            "index i on a with ^;", "index i on a only ^;", "index i on a only a = 1 ^and b = 1;",
            "index i on a only a = 1 ^with b;", "index i on a,^,",
        ):
            self.fault(2, HEAD + marked)

    def test_sorts_out_of_order(self):
        self.fault(2, HEAD + "ask q; ^row 1, 5 times 3;")
        self.fault(2, HEAD + "index i on a; ^ask q;")
        self.fault(2, HEAD + "index i on a; ^row 1, 5 times 3;")

    def test_reserved_words_are_no_names(self):
        for word in "table row ask index where and from to by back wants first times on with only".split():
            self.fault(2, f"table (^{word});")
            self.fault(2, HEAD + f"ask ^{word};")
            self.fault(2, HEAD + f"ask q wants ^{word};")
            self.fault(2, HEAD + f"index ^{word} on a;")


class FaultThree(LoadCase):
    def test_values_above_nine(self):
        self.good(HEAD + "row 9, 0 times 1; ask q where a = 9; index i on a only b = 9;", 2, 1, 1, 1)
        self.fault(3, HEAD + "row ^10, 1 times 1;")
        self.fault(3, HEAD + "row 1, ^10 times 1;")
        self.fault(3, HEAD + "ask q where a = ^10;")
        self.fault(3, HEAD + "ask q where a from ^10 to 3;")
        self.fault(3, HEAD + "ask q where a from 3 to ^10;")
        self.fault(3, HEAD + "index i on a only b = ^10;")

    def test_second_value_below_the_first(self):
        self.good(HEAD + "ask q where a from 3 to 3; index i on a only b from 9 to 9;", 2, 0, 1, 1)
        self.fault(3, HEAD + "ask q where a from 3 to ^2;")
        self.fault(3, HEAD + "index i on a only b from 1 to ^0;")

    def test_how_many_rows(self):
        self.good(HEAD + "row 1, 1 times 1; row 1, 2 times 1000000;", 2, 2, 0, 0)
        self.fault(3, HEAD + "row 1, 1 times ^0;")
        self.fault(3, HEAD + "row 1, 1 times ^1000001;")

    def test_limits(self):
        self.good(HEAD + "ask q first 1; ask r first 1000000;", 2, 0, 2, 0)
        self.fault(3, HEAD + "ask q first ^0;")
        self.fault(3, HEAD + "ask q first ^1000001;")

    def test_how_often(self):
        self.good(HEAD + "ask q times 0; ask r times 1000;", 2, 0, 2, 0)
        self.fault(3, HEAD + "ask q times ^1001;")


class FaultFour(LoadCase):
    def test_a_column_that_is_there_already(self):
        self.fault(4, "table (a, ^a);")
        self.fault(4, "table (a, b, c, ^b);")

    def test_a_word_that_is_no_column(self):
        for marked in (
            "ask q where ^c = 1;", "ask q where a = 1 and ^c = 1;", "ask q by ^c;", "ask q wants a, ^c;",
            "ask q wants ^q;", "index i on ^c;", "index i on a with ^i;", "index i on a only ^c = 1;",
        ):
            self.fault(4, HEAD + marked)

    def test_a_column_that_stands_there_already(self):
        for marked in (
            "ask q by a, ^a;", "ask q by a, b, ^a;", "ask q wants b, ^b;", "index i on a, ^a;",
            "index i on a with ^a;", "index i on a with b, ^b;", "index i on b, a with ^b;",
        ):
            self.fault(4, HEAD + marked)

    def test_a_column_may_stand_in_the_filters_the_order_and_the_wanted_ones(self):
        self.good(HEAD + "ask q where a = 1 by a wants a; index i on a only a = 1;", 2, 0, 1, 1)

    def test_a_filter_of_a_column_that_has_one(self):
        self.fault(4, HEAD + "ask q where a = 1 and ^a = 2;")
        self.fault(4, HEAD + "ask q where a = 1 and b = 1 and ^a from 1 to 2;")
        self.good(HEAD + "ask q where a = 1; ask r where a = 1;", 2, 0, 2, 0)

    def test_that_is_told_when_the_filter_has_been_read_whole(self):
        self.fault(3, HEAD + "ask q where a = 1 and a = ^10;")
        self.fault(3, HEAD + "ask q where a = 1 and a from 3 to ^2;")
        self.fault(2, HEAD + "ask q where a = 1 and a from 3 ^;")
        self.fault(4, HEAD + "ask q where a = 1 and ^a = 2 ) ;")

    def test_a_row_that_an_earlier_one_is_like(self):
        self.fault(4, HEAD + ROW + "row ^1, 5 times 4;")
        self.fault(4, HEAD + ROW + "row 5, 1 times 3; row ^1, 5 times 3;")
        self.good(HEAD + ROW + "row 1, 6 times 3; row 5, 1 times 3;", 2, 3, 0, 0)

    def test_that_is_told_when_its_values_have_been_read(self):
        self.fault(4, HEAD + ROW + "row ^1, 5 times 0;")
        self.fault(4, HEAD + ROW + "row ^1, 5 ;")
        self.fault(2, HEAD + ROW + "row 1 ^;")
        self.fault(3, HEAD + ROW + "row 1, ^15 times 3;")

    def test_names_that_an_earlier_one_of_the_same_sort_has(self):
        self.fault(4, HEAD + "ask q; ask r; ask ^q;")
        self.fault(4, HEAD + "index i on a; index ^i on b;")


class FaultFive(LoadCase):
    def test_columns(self):
        self.good("table (a, b, c, d);", 4, 0, 0, 0)
        self.fault(5, "table (a, b, c, d, ^e);")
        self.fault(5, "table (a, b, c, d, ^e ;")

    def test_a_fifth_column_that_is_there_already_or_no_name(self):
        self.fault(4, "table (a, b, c, d, ^a);")
        self.fault(2, "table (a, b, c, d, ^row);")

    def test_rows(self):
        rows = "".join([f"row {value % 10}, {value // 10} times 1; " for value in range(12)])
        self.good(HEAD + rows, 2, 12, 0, 0)
        self.fault(5, HEAD + rows + "^row 9, 9 times 1;")
        self.fault(5, HEAD + rows + "^row row")

    def test_questions(self):
        asks = "".join([f"ask {name}; " for name in NAMES[:6]])
        self.good(HEAD + asks, 2, 0, 6, 0)
        self.fault(5, HEAD + asks + "^ask a;")

    def test_indexes(self):
        indexes = "".join([f"index {name} on a; " for name in NAMES[:8]])
        self.good(HEAD + indexes, 2, 0, 0, 8)
        self.fault(5, HEAD + indexes + "^index z on a;")


class FirstOfOthers(LoadCase):
    def test_the_one_that_reading_comes_to_first(self):
        self.fault(2, "table (^1, a, a);")
        self.fault(4, "table (a, ^a, 1);")
        self.fault(3, HEAD + "row ^10, 5 5 times 0;")
        self.fault(4, HEAD + "ask q by ^c first 0 ; index")
        self.fault(3, HEAD + "ask q first ^0 by ; ask q;")
        self.fault(5, "table (a, b, c, d, ^e, e, 1);")


class WhatALoadChanges(unittest.TestCase):
    BEFORE = (load(EXAMPLE), write(0, 1, 1, 5), room(60), day(5, 0), day(0, 2))
    PROBES = (way(0, 0, 1), answer(0), total(1), least(), write(1, 1, 1, 5), day(1, 1))

    def test_a_fault_or_a_text_that_is_too_long_changes_nothing(self):
        expected = run(*self.BEFORE, *self.PROBES)[len(self.BEFORE):]
        self.assertEqual(expected[-2:], [[1], [2]])
        for wrong in ("table (a); row 1 times 5; ask", "#", EXAMPLE + " " * 1200):
            found = run(*self.BEFORE, load(wrong), *self.PROBES)[len(self.BEFORE):]
            self.assertIn(found[0], ([-1], [1, 1, 0], [1, 2, 29]))
            self.assertEqual(found[1:], expected)

    def test_a_fault_without_a_text_leaves_none(self):
        self.assertEqual(run(load("table"), least()), [[1, 2, 5], [-8]])

    def test_one_without_a_fault_leaves_no_writes_no_days_and_no_room(self):
        found = run(*self.BEFORE, load(EXAMPLE), total(1), least(), write(0, 1, 1, 5), day(5, 0))
        self.assertEqual(found[len(self.BEFORE):], [[0, 2, 4, 2, 2], [24, 0, 30], [215, 1, 0], [0], [0]])

    def test_full_writes_and_days_are_emptied_too(self):
        full = [load(EXAMPLE)] + [write(0, 1, 1, 5)] * 6 + [day(1, 1)] * 6
        self.assertEqual(run(*full, write(0, 1, 1, 5), day(1, 1))[-2:], [[-6], [-6]])
        self.assertEqual(run(*full, load(EXAMPLE), write(0, 1, 1, 5), day(1, 1))[-2:], [[0], [0]])

    def test_the_new_text_counts(self):
        other = "table (a); row 4 times 7; ask q by a;"
        self.assertEqual(run(load(EXAMPLE), load(other), answer(0), answer(1))[1:], [[0, 1, 1, 1, 0], [7, 1, 7, 4], [-2]])


if __name__ == "__main__":
    unittest.main()
