"""Promise 2, of fix and free."""

import unittest

from tests.lines import (
    HUGE, LAY, SHOWS, ask, cost, costs, fix, free, laid, last, no_laying, plain, put, shown, texts,
)

TWO_AND_TWO = texts(plain(10, 20), plain(10, 20))


class Fix(unittest.TestCase):
    def test_answers_what_it_costs_then(self):
        self.assertEqual(ask(TWO_AND_TWO, fix(0, 0)), [[2, 2], [0]])
        self.assertEqual(ask(TWO_AND_TWO, fix(0, 1)), [[2, 2], [8]])

    def test_laying_told_keeps_it(self):
        self.assertEqual(last(TWO_AND_TWO, fix(1, 0), LAY), laid(8, (2, 2)))
        dear_two_and_two = costs((0, 5, 5, 99, 12, 12))
        self.assertEqual(last(TWO_AND_TWO, dear_two_and_two, fix(1, 0), LAY), laid(12 + 5 + 10, (1, 0), (1, 2)))

    def test_a_bead_that_has_only_one_of_the_pair_does_not_keep_it(self):
        free_of_charge = costs((99, 99, 99, 99, 0, 0))
        told = ask(free_of_charge, texts(plain(1), plain(1)), LAY, fix(0, 0), LAY)
        self.assertEqual(told[2:], [laid(0, (1, 0), (0, 1)), [99], laid(99, (1, 1))])

    def test_several_pairs_are_kept_together(self):
        told = ask(texts(plain(1, 1, 1), plain(1, 1, 1)), fix(1, 0), fix(2, 1), LAY)
        self.assertEqual(told[1:], [[8], [12], laid(12, (2, 1), (1, 2))])

    def test_four_pairs_in_one_bead(self):
        told = ask(TWO_AND_TWO, fix(0, 0), fix(0, 1), fix(1, 0), fix(1, 1), LAY)
        self.assertEqual(told[1:], [[0], [8], [8], [8], laid(8, (2, 2))])

    def test_no_such_sentence(self):
        three_and_two = texts(plain(1, 1, 1), plain(1, 1))
        self.assertEqual(ask(three_and_two, fix(2, 1))[1], [5 + 1])
        for i, j in ((3, 0), (0, 2), (3, 2), (HUGE, 0), (0, HUGE), (HUGE, HUGE)):
            with self.subTest(i=i, j=j):
                self.assertEqual(last(three_and_two, fix(i, j)), [-2])

    def test_no_sentence_at_all(self):
        self.assertEqual(ask(fix(0, 0)), [[-2]])
        self.assertEqual(last(texts(plain(1), []), fix(0, 0)), [-2])
        self.assertEqual(last(texts([], plain(1)), fix(0, 0)), [-2])

    def test_fixed_twice(self):
        told = ask(TWO_AND_TWO, fix(0, 1), fix(1, 1), fix(0, 1), fix(1, 1), LAY)
        self.assertEqual(told[1:], [[8], [8], [-4], [-4], laid(8, (2, 2))])

    def test_a_refused_second_time_leaves_it_fixed_once(self):
        told = ask(TWO_AND_TWO, fix(0, 1), fix(0, 1), free(0, 1), free(0, 1))
        self.assertEqual(told[1:], [[8], [-4], [0], [-2]])

    def test_pairs_that_cross(self):
        told = ask(texts(plain(1, 1, 1), plain(1, 1, 1)), fix(0, 2), fix(2, 0))
        self.assertEqual(told[2], [-6])

    def test_pairs_that_would_want_a_bead_too_large(self):
        one_and_three = texts(plain(1), plain(1, 1, 1))
        self.assertEqual(last(one_and_three, fix(0, 0), fix(0, 1), fix(0, 2)), [-6])
        self.assertEqual(last(one_and_three, fix(0, 0), fix(0, 2)), [-6])
        three_and_one = texts(plain(1, 1, 1), plain(1))
        self.assertEqual(last(three_and_one, fix(0, 0), fix(2, 0)), [-6])

    def test_all_is_as_it_was_after_a_refusal(self):
        before = texts(plain(1, 2, 3), plain(3, 2, 1)), fix(0, 1), fix(2, 2), LAY
        for call, number in ((fix(3, 0), -2), (fix(0, 3), -2), (fix(0, 1), -4), (fix(0, 2), -6), (fix(2, 0), -6)):
            with self.subTest(call=call):
                told = ask(*before, call, LAY, free(*call[1:]))
                self.assertEqual(told[4], [number])
                self.assertEqual(told[5], told[3])
                # What was refused is not fixed; what was fixed still is.
                self.assertEqual(told[6] == [-2], number != -4)

    def test_a_pair_that_no_laying_kept_can_be_fixed_once_there_is_room(self):
        told = ask(texts(plain(1, 1, 1), plain(1, 1, 1)), fix(0, 2), fix(2, 0), free(0, 2), fix(2, 0))
        self.assertEqual(told[2:], [[-6], [0], [12 + 8 + 12]])

    def test_the_pair_is_what_counts_not_one_of_its_sentences(self):
        told = ask(TWO_AND_TWO, fix(0, 0), fix(0, 1), fix(1, 0))
        self.assertEqual(told[1:], [[0], [8], [8]])


class Free(unittest.TestCase):
    def test_answers_what_it_costs_then(self):
        told = ask(TWO_AND_TWO, fix(0, 1), free(0, 1), LAY)
        self.assertEqual(told[1:], [[8], [0], laid(0, (1, 1), (1, 1))])

    def test_only_that_pair_is_fixed_no_more(self):
        told = ask(TWO_AND_TWO, fix(0, 1), fix(1, 0), free(0, 1), LAY, free(1, 0), LAY)
        self.assertEqual(told[3:], [[8], laid(8, (2, 2)), [0], laid(0, (1, 1), (1, 1))])

    def test_not_fixed(self):
        self.assertEqual(last(TWO_AND_TWO, free(0, 0)), [-2])
        self.assertEqual(last(TWO_AND_TWO, fix(0, 1), free(1, 0)), [-2])
        self.assertEqual(last(TWO_AND_TWO, fix(0, 1), free(0, 0)), [-2])
        self.assertEqual(last(TWO_AND_TWO, fix(0, 1), free(1, 1)), [-2])

    def test_no_such_sentence(self):
        self.assertEqual(ask(free(0, 0)), [[-2]])
        self.assertEqual(last(TWO_AND_TWO, fix(1, 1), free(2, 1)), [-2])
        self.assertEqual(last(TWO_AND_TWO, fix(1, 1), free(HUGE, HUGE)), [-2])

    def test_freed_twice(self):
        self.assertEqual(ask(TWO_AND_TWO, fix(0, 1), free(0, 1), free(0, 1))[2:], [[0], [-2]])

    def test_fixed_again_after_it_was_freed(self):
        told = ask(TWO_AND_TWO, fix(0, 1), free(0, 1), fix(0, 1), free(0, 1), free(0, 1))
        self.assertEqual(told[1:], [[8], [0], [8], [0], [-2]])

    def test_all_is_as_it_was_after_a_refusal(self):
        told = ask(TWO_AND_TWO, fix(0, 1), free(0, 0), LAY, cost((1, 1), (1, 1)), fix(0, 1))
        self.assertEqual(told[2:], [[-2], laid(8, (2, 2)), [-4], [-4]])

    def test_no_laying_then_but_it_is_done(self):
        four_pairs = TWO_AND_TWO, fix(0, 0), fix(0, 1), fix(1, 0), fix(1, 1), put(0, 1, 5)
        told = ask(*four_pairs, free(2, 0), SHOWS, LAY, free(2, 0), free(2, 1), SHOWS)
        self.assertEqual(told[5:9], [[-6], [-6], shown(3, 2, (0, 0), (0, 1), (2, 1)), [-6]])
        self.assertEqual(told[9:], [[-2], [8 + 15 + 12], shown(3, 2, (0, 0), (0, 1))])

    def test_not_fixed_while_there_is_no_laying(self):
        told = ask(*no_laying(), free(1, 0), free(3, 0), SHOWS, free(0, 0), SHOWS)
        self.assertEqual(told[4:], [[-2], [-2], shown(3, 1, (0, 0), (2, 0)), [22], shown(3, 1, (2, 0))])


if __name__ == "__main__":
    unittest.main()
