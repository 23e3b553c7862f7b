"""Promise 2, of pair."""

import unittest

from tests.lines import HUGE, LAY, SHOWS, ask, costs, fix, free, laid, last, no_laying, plain, shown, texts, try_pair

TWO_AND_TWO = texts(plain(10, 20), plain(10, 20))


class Pair(unittest.TestCase):
    def test_answers_what_it_would_cost_and_how_much_more(self):
        self.assertEqual(last(TWO_AND_TWO, try_pair(0, 0)), [0, 0])
        self.assertEqual(last(TWO_AND_TWO, try_pair(0, 1)), [8, 8])
        self.assertEqual(last(TWO_AND_TWO, try_pair(1, 0)), [8, 8])

    def test_how_much_more_than_it_costs_now(self):
        calls = texts(plain(10, 20), plain(12, 25)), LAY
        self.assertEqual(ask(*calls, try_pair(0, 1))[1:], [laid(7, (1, 1), (1, 1)), [8 + 7, 8]])
        self.assertEqual(last(*calls, fix(0, 1), try_pair(1, 0)), [15, 0])

    def test_fixed_pairs_are_kept_too(self):
        three_and_three = texts(plain(1, 1, 1), plain(1, 1, 1))
        self.assertEqual(last(three_and_three, try_pair(2, 1)), [8, 8])
        self.assertEqual(last(three_and_three, fix(1, 0), try_pair(2, 1)), [12, 4])

    def test_what_fix_answers_then(self):
        before = texts([(3, 1), (9,), (4, 2)], [(4, 1), (12, 2)]), fix(1, 0)
        for i in range(3):
            for j in range(2):
                if (i, j) != (1, 0):
                    with self.subTest(i=i, j=j):
                        told = ask(*before, try_pair(i, j), fix(i, j))
                        self.assertEqual(told[2][:1], told[3])
                        if told[3] != [-6]:
                            self.assertEqual(told[2][1], told[3][0] - told[1][0])

    def test_goes_by_the_costs_that_hold_now(self):
        told = ask(TWO_AND_TWO, costs((3, 5, 5, 50, 12, 12)), try_pair(0, 1))
        self.assertEqual(told[2], [12 + 5 + 10, 12 + 5 + 10 - 6])

    def test_it_is_not_fixed_by_it(self):
        told = ask(TWO_AND_TWO, try_pair(0, 1), SHOWS, LAY, free(0, 1), fix(0, 1), SHOWS)
        self.assertEqual(told[2:5], [shown(2, 2), laid(0, (1, 1), (1, 1)), [-2]])
        self.assertEqual(told[5:], [[8], shown(2, 2, (0, 1))])

    def test_asked_twice_it_is_answered_the_same(self):
        self.assertEqual(ask(TWO_AND_TWO, try_pair(0, 1), try_pair(0, 1))[1:], [[8, 8], [8, 8]])

    def test_fixed_already_it_costs_no_more(self):
        told = ask(TWO_AND_TWO, fix(0, 1), try_pair(0, 1), SHOWS, free(0, 1), SHOWS)
        self.assertEqual(told[2:], [[8, 0], shown(2, 2, (0, 1)), [0], shown(2, 2)])

    def test_no_such_sentence(self):
        three_and_two = texts(plain(1, 1, 1), plain(1, 1))
        self.assertEqual(last(three_and_two, try_pair(2, 1)), [6, 0])
        for i, j in ((3, 0), (0, 2), (2, 2), (3, 2), (HUGE, 0), (0, HUGE), (HUGE, HUGE)):
            with self.subTest(i=i, j=j):
                self.assertEqual(last(three_and_two, try_pair(i, j)), [-2])

    def test_no_sentence_at_all(self):
        self.assertEqual(ask(try_pair(0, 0)), [[-2]])
        self.assertEqual(last(texts(plain(1), []), try_pair(0, 0)), [-2])
        self.assertEqual(last(texts([], plain(1)), try_pair(0, 0)), [-2])

    def test_no_laying_would_keep_it(self):
        three_and_three = texts(plain(1, 1, 1), plain(1, 1, 1))
        told = ask(three_and_three, fix(0, 2), try_pair(2, 0), SHOWS, LAY)
        self.assertEqual(told[2:], [[-6], shown(3, 3, (0, 2)), laid(32, (0, 1), (2, 2), (1, 0))])

    def test_there_is_no_laying_now(self):
        for i in range(3):
            with self.subTest(i=i):
                self.assertEqual(last(*no_laying(), try_pair(i, 0)), [-6])

    def test_no_such_sentence_is_told_ahead_of_no_laying(self):
        for i, j in ((3, 0), (0, 1), (HUGE, HUGE)):
            with self.subTest(i=i, j=j):
                self.assertEqual(last(*no_laying(), try_pair(i, j)), [-2])


if __name__ == "__main__":
    unittest.main()
