"""Promise 3: cost."""

import unittest

from tests.lines import HUGE, LAY, ask, cost, costs, fix, free, laid, last, plain, texts

THREE_AND_TWO = texts([(10, 1), (20,), (30, 2)], [(30, 1), (33,)])


class Cost(unittest.TestCase):
    def test_answers_what_that_laying_costs(self):
        self.assertEqual(last(THREE_AND_TWO, cost((2, 1), (1, 1))), [5 + 3 + 10])
        self.assertEqual(last(THREE_AND_TWO, cost((1, 1), (2, 1))), [20 + 5 + 17 + 10])
        self.assertEqual(last(THREE_AND_TWO, cost((1, 2), (1, 0), (1, 0))), [5 + 53 + 12 + 12 + 10])
        self.assertEqual(last(THREE_AND_TWO, cost((2, 2), (1, 0))), [8 + 33 + 12 + 10])
        self.assertEqual(last(THREE_AND_TWO, cost((1, 0), (0, 1), (1, 1), (1, 0))), [22 + 22 + 13 + 22])

    def test_goes_by_the_costs_that_hold_now(self):
        told = ask(THREE_AND_TWO, costs((1, 2, 3, 4, 5, 6), 200, 2, 100), cost((2, 1), (1, 1)))
        self.assertEqual(told[2], [3 + 2 * 30 + 1 + 2 * 27 + 100])

    def test_what_is_told_costs_what_it_is_told_to_cost(self):
        told = last(THREE_AND_TWO, LAY)
        beads = list(zip(told[2::2], told[3::2]))
        self.assertEqual(last(THREE_AND_TWO, cost(*beads)), [told[0]])

    def test_no_beads(self):
        self.assertEqual(ask(cost()), [[0]])
        self.assertEqual(last(texts(plain(1), []), cost()), [-1])
        self.assertEqual(last(texts([], plain(1)), cost()), [-1])

    def test_no_sentences(self):
        for beads in ([(1, 1)], [(1, 0)], [(0, 1)], [(0, 0)]):
            with self.subTest(beads=beads):
                self.assertEqual(ask(cost(*beads)), [[-1]])

    def test_no_such_kind(self):
        four_and_four = texts(plain(1, 1, 1, 1), plain(1, 1, 1, 1))
        shapes = (
            [(1, 3), (2, 1), (1, 0)],
            [(3, 1), (1, 2), (0, 1)],
            [(2, 0), (2, 2), (0, 2)],
            [(0, 2), (2, 2), (2, 0)],
            [(4, 4)],
            [(0, 0), (2, 2), (2, 2)],
            [(2, 2), (2, 2), (0, 0)],
            [(HUGE, HUGE)],
        )
        for beads in shapes:
            with self.subTest(beads=beads):
                self.assertEqual(last(four_and_four, cost(*beads)), [-1])

    def test_not_all_sentences(self):
        for beads in ([(2, 1)], [(1, 1), (1, 1)], [(2, 1), (1, 0)], [(1, 1), (0, 1)]):
            with self.subTest(beads=beads):
                self.assertEqual(last(THREE_AND_TWO, cost(*beads)), [-1])

    def test_more_sentences_than_there_are(self):
        for beads in ([(2, 1), (1, 1), (1, 0)], [(2, 1), (1, 1), (0, 1)], [(2, 1), (2, 1)], [(2, 1), (1, 2)]):
            with self.subTest(beads=beads):
                self.assertEqual(last(THREE_AND_TWO, cost(*beads)), [-1])

    def test_as_many_beads_as_a_laying_can_have(self):
        call = texts(plain(*[1] * 14), plain(*[1] * 14))
        self.assertEqual(last(call, cost(*[(1, 0), (0, 1)] * 14)), [28 * 12])
        self.assertEqual(last(call, cost(*[(1, 0), (0, 1)] * 15)), [-1])
        self.assertEqual(last(call, cost(*[(1, 0)] * 31)), [-1])
        self.assertEqual(last(call, cost(*[(0, 1)] * 50)), [-1])

    def test_does_not_keep_a_fixed_pair(self):
        calls = THREE_AND_TWO, fix(1, 0)
        self.assertEqual(last(*calls, cost((1, 1), (2, 1))), [-4])
        self.assertEqual(last(*calls, cost((1, 0), (1, 0), (0, 1), (1, 1))), [-4])
        self.assertEqual(last(*calls, cost((2, 1), (1, 1))), [18])
        self.assertEqual(last(*calls, cost((1, 0), (1, 2), (1, 0))), [22 + 5 + 43 + 10 + 22])

    def test_keeps_one_but_not_the_other(self):
        calls = THREE_AND_TWO, fix(1, 0), fix(2, 1)
        self.assertEqual(last(*calls, cost((1, 0), (1, 2), (1, 0))), [-4])
        self.assertEqual(last(*calls, cost((2, 1), (1, 1))), [18])

    def test_a_freed_pair_need_not_be_kept(self):
        self.assertEqual(last(THREE_AND_TWO, fix(1, 0), free(1, 0), cost((1, 1), (2, 1))), [52])

    def test_no_laying_is_told_ahead_of_what_is_not_kept(self):
        calls = THREE_AND_TWO, fix(1, 0)
        for beads in ([(1, 1), (1, 1)], [(1, 1), (1, 1), (1, 1)], [(1, 1), (0, 0), (2, 1)], [(1, 0)] * 31, []):
            with self.subTest(beads=beads):
                self.assertEqual(last(*calls, cost(*beads)), [-1])

    def test_changes_nothing(self):
        before = THREE_AND_TWO, fix(1, 0), LAY
        for beads in ([(2, 1), (1, 1)], [(1, 1), (2, 1)], [(1, 1)], [(1, 0)] * 31):
            with self.subTest(beads=beads):
                told = ask(*before, cost(*beads), LAY, fix(1, 0))
                self.assertEqual(told[4], told[2])
                self.assertEqual(told[5], [-4])

    def test_no_laying_costs_less_than_the_one_told(self):
        self.assertEqual(last(THREE_AND_TWO, LAY), laid(18, (2, 1), (1, 1)))


if __name__ == "__main__":
    unittest.main()
