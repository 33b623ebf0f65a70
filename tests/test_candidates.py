"""candidates and make: promises 3 and 4, and what the words say of what's made of a question."""

import unittest

from tests.helper import (
    EXAMPLE, answer, candidates, check, day, kept, last, least, load, make, margin, numbers, outdone, plan,
    prove, room, run, total, way, worth, write,
)

COLUMNS = "abcd"
# Ten rows; with a the question q costs 7, with b the question r costs 3, without any index each costs 20.
TABLE = "table (a, b); row 1, 1 times 6; row 1, 2 times 1; row 2, 2 times 2; row 3, 3 times 1; "
ASKS = "ask q where a = 1; ask r where b = 2; "


def shown(told):
    """Candidates as texts: the keys, a stroke, the included columns."""
    count, *rest = told
    found = []
    for turn in range(count):
        sides = []
        for side in range(2):
            length = rest.pop(0)
            sides.append("".join([COLUMNS[rest.pop(0)] for column in range(length)]))
        assert rest.pop(0) == 0
        found.append("|".join(sides))
    assert not rest
    return found


class Candidates(unittest.TestCase):
    def expect(self, question, *expected):
        found = last(load(f"table (a, b, c, d); ask q {question};"), candidates(0))
        self.assertEqual(shown(found), list(expected), question)

    def test_no_such_question(self):
        for number in (-1, 2, 10 ** 18, -10 ** 18):
            self.assertEqual(last(load(EXAMPLE), candidates(number)), [-2])
        self.assertEqual(last(load("table (a);"), candidates(0)), [-2])

    def test_as_numbers(self):
        text = "table (a, b, c); ask q where b = 1 and c from 1 to 2 wants a;"
        self.assertEqual(last(load(text), candidates(0)), numbers("2 2 1 2 0 0 2 1 2 1 0 0"))

    def test_an_order_alone(self):
        self.expect("by c", "c|")
        self.expect("by c, a", "ca|")
        self.expect("by c, a back wants b", "ca|", "ca|b")

    def test_an_order_behind_columns_with_equal_filters(self):
        self.expect("where a = 1 by c", "ac|")
        self.expect("where a = 1 by c wants d", "ac|", "ac|d")
        self.expect("where b = 1 and a = 2 by d, c", "badc|")

    def test_columns_with_equal_filters_in_the_order(self):
        self.expect("where b = 1 and a = 2 by a, c, b wants d", "bac|", "bac|d")
        self.expect("where b = 1 by c, b, a", "bca|")

    def test_an_order_of_columns_with_equal_filters_alone(self):
        self.expect("where a = 1 by a", "a|")
        self.expect("where a = 1 and c = 2 by c, a wants d", "ac|", "ac|d")
        self.expect("where a = 1 and b from 2 to 3 by a", "ab|")

    def test_one_filter_that_is_not_equal(self):
        self.expect("where c from 1 to 2", "c|")
        self.expect("where c from 1 to 2 and b = 3", "bc|")
        self.expect("where c from 1 to 2 and b = 3 wants d", "bc|", "bc|d")

    def test_several_filters_that_are_not_equal(self):
        self.expect("where c from 1 to 2 and b = 3 and a from 0 to 9", "bc|", "bc|a", "ba|", "ba|c")
        self.expect("where d from 1 to 2 and b from 1 to 2", "d|", "d|b", "b|", "b|d")
        self.expect("where d from 1 to 2 and c from 3 to 4 and b from 5 to 6 and a from 7 to 8",
                    "d|", "d|cba", "c|", "c|dba", "b|", "b|dca", "a|", "a|dcb")

    def test_a_filter_from_a_value_to_the_same_is_equal(self):
        self.expect("where c from 2 to 2 and b from 2 to 3", "cb|")
        self.expect("where c from 2 to 2 by c, b", "cb|")

    def test_an_order_and_filters_that_are_not_equal(self):
        self.expect("where a from 1 to 2 by b", "b|", "b|a", "a|", "a|b")
        self.expect("where d = 1 and a from 1 to 2 by b wants c", "db|", "db|ac", "da|", "da|bc")

    def test_equal_filters_alone(self):
        self.expect("where d = 1", "d|")
        self.expect("where d = 1 and b = 2", "db|")
        self.expect("where d = 1 and b = 2 wants b, c, a", "db|", "db|ca")

    def test_no_filter_and_no_order(self):
        self.expect("wants c", "c|")
        self.expect("wants c, d, a", "c|", "c|da")

    def test_a_question_that_needs_nothing(self):
        self.expect("", "a|")
        self.expect("first 5 times 7", "a|")
        self.assertEqual(last(load("table (a); ask q;"), candidates(0)), [1, 1, 0, 0, 0])

    def test_included_columns_stand_as_they_are_needed_each_once(self):
        self.expect("where d from 1 to 2 by c wants a, d, b, c", "c|", "c|dab", "d|", "d|cab")
        self.expect("where b = 1 by d wants c, b, a, d", "bd|", "bd|ca")

    def test_the_same_are_told_once(self):
        self.expect("where a from 1 to 2 by a", "a|")
        self.expect("where a from 1 to 2 by a wants b", "a|", "a|b")
        self.expect("where b = 1 and c from 1 to 2 and a from 1 to 2 by c", "bc|", "bc|a", "ba|", "ba|c")
        self.expect("where b from 1 to 2 and a from 1 to 2 by a", "a|", "a|b", "b|", "b|a")

    def test_unlike_orders_of_the_same_columns_are_not_the_same(self):
        self.expect("where a from 1 to 2 and b from 1 to 2 by a, b", "ab|", "a|", "a|b", "b|", "b|a")

    def test_indexes_that_there_are_do_not_matter(self):
        text = "table (a, b); ask q where a = 1; index i on a; index j on a with b;"
        self.assertEqual(last(load(text), candidates(0)), [1, 1, 0, 0, 0])


class Make(unittest.TestCase):
    def test_no_such_question(self):
        for number in (-1, 2, 10 ** 18, -10 ** 18):
            self.assertEqual(run(load(EXAMPLE), make(number, 0), make(number, -1))[1:], [[-2], [-2]])
        self.assertEqual(last(load("table (a);"), make(0, 0)), [-2])

    def test_no_such_candidate(self):
        for number in (-1, 2, 10 ** 18, -10 ** 18):
            self.assertEqual(last(load(EXAMPLE), make(1, number)), [-4])
        self.assertEqual(run(load(EXAMPLE), make(0, 0), make(0, 1))[1:], [[2, 30, 0], [-4]])

    def test_the_eighth_and_the_ninth(self):
        found = run(load(EXAMPLE), *[make(1, 0)] * 6, make(1, 0), make(1, 1))
        self.assertEqual(found[1:], [[number, 20, 0] for number in range(2, 8)] + [[-6], [-6]])

    def test_refusals_in_their_order(self):
        full = [load(EXAMPLE)] + [make(1, 0)] * 6
        self.assertEqual(run(*full, make(2, 9), make(2, 0), make(1, 2), make(1, -1), make(1, 0))[7:], [
            [-2], [-2], [-4], [-4], [-6]])

    def test_nothing_is_changed_by_them(self):
        found = run(load(EXAMPLE), room(60), make(2, 0), make(1, 2), total(2), least(), make(1, 1), total(2))
        self.assertEqual(found[2:], [[-2], [-4], [-3], [24, 2, 1, 1], [2, 30, 0], [24, 0, 30]])
        full = [load(EXAMPLE), room(60)] + [make(1, 0)] * 6
        self.assertEqual(run(*full, least(), make(1, 0), least(), total(8))[8:], [
            [24, 8, 1, 1], [-6], [24, 8, 1, 1], [-3]])

    def test_with_included_columns_and_without(self):
        found = run(load(EXAMPLE), write(2, 1, 1, 5, 2, 5), make(1, 0), make(1, 1), make(0, 0))
        self.assertEqual(found[2:], [[2, 20, 0], [3, 30, 6], [4, 30, 6]])

    def test_writes_ahead_of_it_and_behind_it(self):
        found = run(load(EXAMPLE), write(0, 2, 1, 5), make(1, 0), write(1, 5, 9, 9), total(2), worth(2), make(1, 0))
        self.assertEqual(found[2:], [[2, 20, 6], [1], [90, 21, 20], [125, 21], [3, 20, 21]])

    def test_a_table_without_rows(self):
        self.assertEqual(last(load("table (a); ask q;"), make(0, 0)), [0, 0, 0])

    def test_one_that_there_is_already(self):
        found = run(load("table (a); row 1 times 5; ask q where a = 1; index i on a;"), make(0, 0), make(0, 0), outdone())
        self.assertEqual(found[1:], [[1, 10, 0], [2, 10, 0], [2, 1, 0, 2, 0]])

    def test_candidates_stay_the_same(self):
        found = run(load(EXAMPLE), candidates(1), make(1, 1), candidates(1))
        self.assertEqual(found[1], found[3])

    def test_a_text_loaded_anew_has_its_own_indexes_alone(self):
        found = run(load(EXAMPLE), make(1, 0), load(EXAMPLE), total(2), make(1, 1), load("?"), total(2))
        self.assertEqual(found[3:], [[-3], [2, 30, 0], [1, 1, 0], [24, 0, 30]])

    def test_it_is_counted_by_all_calls_behind_it(self):
        """As if it stood in the text."""
        ahead = [room(75), write(0, 1, 1, 2), write(2, 2, 1, 1, 1, 3), day(3, 0), day(1, 4), day(0, 0)]
        behind = [
            way(0, 0, 1), way(1, 0, 1), way(1, 1), answer(0), answer(1), total(1), total(0, 1), least(), prove(),
            margin(0), margin(1), kept(0, 7), kept(1, 3), kept(1, 5), outdone(), worth(1), worth(0, 1), worth(1, 0, 1),
            candidates(0), plan(), check(19, 0, 0, 1, 1, 0, 1, 1), check(0, 0, 0, 0, 1, 1, 1, 1),
        ]
        for question, index in ((0, "on a"), (1, "on b")):
            text = TABLE + ASKS + "index i on a with b;"
            made = run(load(text), *ahead, make(question, 0), *behind)
            told = run(load(text + f"index j {index};"), *ahead, *behind)
            self.assertEqual(made[8:], told[7:])
            self.assertNotIn([-3], made)

    def test_what_they_answer_then(self):
        text = load(TABLE + ASKS + "index i on a;")
        calls = [way(1, 0, 1), total(0, 1), least(), prove(), outdone(), worth(1), margin(1), kept(1, 3), plan()]
        found = run(text, room(40), day(0, 10), write(0, 1, 1, 1), make(1, 0), *calls)
        self.assertEqual(found[4:], [
            [1, 20, 3], [1, 3, 0, 0, 3], [10, 6, 40], [16, 1, 2, 0, 1], [16, 3, 0, 0, 1, 1, 1], [0], [17, 3],
            [3, 17, -1, 0], [1, 16, 2, 0, 1], [53, 1, 1, 1, 1]])


if __name__ == "__main__":
    unittest.main()
