"""answer: the words' Answers by counts, promises 2 and 3."""

import unittest

from tests.helper import EXAMPLE, answer, last, load, run

TABLE = "table (a, b, c); row 3, 1, 0 times 2; row 1, 2, 0 times 3; row 1, 1, 5 times 4; row 3, 1, 9 times 10; "


class Answers(unittest.TestCase):
    def answer(self, rest):
        return last(load(TABLE + rest), answer(0))

    def test_no_such_question(self):
        for question in (-1, 2, 10 ** 18, -10 ** 18):
            self.assertEqual(run(load(EXAMPLE), answer(question), answer(0))[1:], [[-2], [2, 1, 2, 5]])
        self.assertEqual(last(load("table (a);"), answer(0)), [-2])

    def test_without_an_order(self):
        self.assertEqual(self.answer("ask q;"), [19, 1, 19])
        self.assertEqual(self.answer("ask q where a = 1 wants b;"), [7, 1, 7])
        self.assertEqual(self.answer("ask q first 5;"), [5, 1, 5])

    def test_with_an_order(self):
        self.assertEqual(self.answer("ask q by a;"), [19, 2, 7, 1, 12, 3])
        self.assertEqual(self.answer("ask q by b;"), [19, 2, 16, 1, 3, 2])
        self.assertEqual(self.answer("ask q by a, b;"), [19, 3, 4, 1, 1, 3, 1, 2, 12, 3, 1])
        self.assertEqual(self.answer("ask q by b, a;"), [19, 3, 4, 1, 1, 12, 1, 3, 3, 2, 1])
        self.assertEqual(self.answer("ask q by c, b, a;"), [19, 4, 2, 0, 1, 3, 3, 0, 2, 1, 4, 5, 1, 1, 10, 9, 1, 3])

    def test_backwards(self):
        self.assertEqual(self.answer("ask q by a back;"), [19, 2, 12, 3, 7, 1])
        self.assertEqual(self.answer("ask q by a, b back;"), [19, 3, 12, 3, 1, 3, 1, 2, 4, 1, 1])

    def test_equal_columns_stand_in_it_too(self):
        self.assertEqual(self.answer("ask q where a = 1 by a, c;"), [7, 2, 3, 1, 0, 4, 1, 5])

    def test_filters(self):
        self.assertEqual(self.answer("ask q where a = 1 and b = 1 by c;"), [4, 1, 4, 5])
        self.assertEqual(self.answer("ask q where c from 0 to 5 by a;"), [9, 2, 7, 1, 2, 3])
        self.assertEqual(self.answer("ask q where c from 1 to 8 by a;"), [4, 1, 4, 1])

    def test_a_limit_that_ends_within_a_part(self):
        self.assertEqual(self.answer("ask q by a first 3;"), [3, 1, 3, 1])
        self.assertEqual(self.answer("ask q by a first 8;"), [8, 2, 7, 1, 1, 3])
        self.assertEqual(self.answer("ask q by a back first 13;"), [13, 2, 12, 3, 1, 1])

    def test_a_limit_that_ends_with_a_part(self):
        self.assertEqual(self.answer("ask q by a first 7;"), [7, 1, 7, 1])
        self.assertEqual(self.answer("ask q by a first 19;"), [19, 2, 7, 1, 12, 3])

    def test_a_limit_beyond_all(self):
        self.assertEqual(self.answer("ask q by a first 1000000;"), [19, 2, 7, 1, 12, 3])

    def test_no_row_found(self):
        for rest in ("where a = 2", "where a = 2 by b", "where a = 2 by b back first 3", "where a = 2 first 1"):
            self.assertEqual(self.answer(f"ask q {rest};"), [0, 0])
        self.assertEqual(last(load("table (a); ask q;"), answer(0)), [0, 0])

    def test_how_often_it_is_asked_and_indexes_do_not_count(self):
        self.assertEqual(self.answer("ask q by a times 0; index i on a only a = 1;"), [19, 2, 7, 1, 12, 3])

    def test_the_longest(self):
        rows = "".join([f"row {value % 10},{value // 10},1,2 times 1000000;" for value in range(12)])
        found = last(load("table(a,b,c,d);" + rows + "ask q by d,c,b,a;"), answer(0))
        self.assertEqual(found[:2], [12000000, 12])
        self.assertEqual(found[2:7], [1000000, 2, 1, 0, 0])
        self.assertEqual(found[-5:], [1000000, 2, 1, 1, 1])
        self.assertEqual(len(found), 62)


if __name__ == "__main__":
    unittest.main()
