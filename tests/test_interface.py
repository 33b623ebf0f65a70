"""answers(calls): how calls are handed over and what is given back."""

import unittest

import indexesneeded.tables
from tests.helper import (
    EXAMPLE, answer, candidates, check, day, joined, kept, least, load, make, margin, outdone, plan, prove, room, run,
    total, way, worth, write,
)


class Interface(unittest.TestCase):
    LINE = joined((
        load(EXAMPLE), write(0, 1, 1, 5), room(60), day(5, 0), way(0, 0, 1), answer(0), total(1), least(), prove(),
        check(27, 0, 1, 0, 1, 1), margin(0), kept(1, 7), outdone(), worth(1), candidates(1), make(1, 0), day(0, 2), plan(),
    ))

    def test_one_call(self):
        self.assertEqual(indexesneeded.tables.answers([7]), [1, -8])
        self.assertEqual(indexesneeded.tables.answers([0, 0]), [3, 1, 2, 0])

    def test_several_calls_in_one_list(self):
        self.assertEqual(indexesneeded.tables.answers(self.LINE), [
            5, 0, 2, 4, 2, 2, 1, 0, 1, 60, 1, 0, 5, 0, 2, 0, 0, 2, 4, 2, 1, 2, 5, 3, 24, 3, 30, 4, 27, 1, 1, 1,
            7, 27, 3, 0, 1, 0, 1, 1, 1, 1, 4, 0, 1, -1, 0, 4, 1, 27, 1, 1, 3, 1, 0, 1, 2, 191, 3,
            10, 2, 1, 1, 0, 0, 1, 1, 1, 0, 0, 3, 2, 20, 3, 1, 1, 7, 60, 1, 2, 1, 1, 1, 1,
        ])

    def test_calls_behind_refusals_go_on(self):
        found = run(least(), load(EXAMPLE), way(9, 9), write(), total(1), room(-1), day(1), load("?"), total(1))
        self.assertEqual(found, [[-8], [0, 2, 4, 2, 2], [-2], [-1], [24, 0, 30], [-5], [-1], [1, 1, 0], [24, 0, 30]])

    def test_calls_behind_refusals_of_the_others_go_on(self):
        calls = (
            load(EXAMPLE), check(-1, 1), margin(2), kept(2, -1), kept(0, -1), check(0, 3), worth(2, 9), candidates(-1),
            make(0, 7), plan(), outdone(),
        )
        self.assertEqual(run(*calls)[1:], [
            [-5], [-2], [-2], [-5], [-4], [-3], [-2], [-4], [0, 1, 0], [1, 0, 1]])

    def test_empty_lists(self):
        found = run(load(""), load(EXAMPLE), write(), day(), way(1), total(), check(5), worth(1))
        self.assertEqual(found, [
            [1, 2, 0], [0, 2, 4, 2, 2], [-1], [-1], [-1, 10, 0, 0, 20], [215, 0, 0], [-4], [191, 0]])

    def test_forty_calls(self):
        found = run(load(EXAMPLE), *[room(number) for number in range(39)])
        self.assertEqual(found[1:], [[number] for number in range(39)])

    def test_the_list_handed_in_is_as_it_was(self):
        calls = list(self.LINE)
        indexesneeded.tables.answers(calls)
        self.assertEqual(calls, self.LINE)

    def test_nothing_is_kept_from_one_time_to_the_next(self):
        first = indexesneeded.tables.answers(list(self.LINE))
        self.assertEqual(indexesneeded.tables.answers([7]), [1, -8])
        self.assertEqual(indexesneeded.tables.answers(list(self.LINE)), first)

    def test_whole_numbers_alone_are_given_back(self):
        given = indexesneeded.tables.answers(self.LINE + check(999, 1))
        self.assertIs(type(given), list)
        self.assertEqual({type(number) for number in given}, {int})

    def test_texts_and_proofs_as_long_as_may_be_are_gone_through_by_loops(self):
        for sign in "(a1 ;":
            text = sign * 1200
            self.assertEqual(run(load(text))[0][0], 1)
        for proof in ([0] * 600, [0, 1] * 300, [1] * 600):
            self.assertEqual(run(load(EXAMPLE), check(0, *proof))[1], [-4])
        self.assertEqual(run(load("table (" + "a," * 590))[0], [1, 4, 9])


if __name__ == "__main__":
    unittest.main()
