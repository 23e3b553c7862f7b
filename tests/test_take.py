"""Promise 2, of take."""

import unittest

from tests.lines import (
    HUGE, LAY, SHOWS, ask, cost, fix, free, laid, last, no_laying, plain, put, shown, take, texts,
)

THREE_AND_THREE = texts([(10, 1), (20,), (40, 2)], [(10, 1), (20,), (40, 2)])
FIXED = THREE_AND_THREE, fix(2, 2), fix(0, 0), fix(1, 1)


class Take(unittest.TestCase):
    def test_the_first_one_in_the_middle_the_last(self):
        ones = [(1, 1), (1, 1)]
        # The sentence that is left alone is laid by itself, with its anchors.
        for place, much in enumerate((12 + 10, 12, 12 + 10)):
            with self.subTest(place=place):
                told = ask(THREE_AND_THREE, take(0, place), LAY, SHOWS)
                self.assertEqual(told[1], laid(much, *ones[:place], (0, 1), *ones[place:]))
                self.assertEqual(told[2:], [told[1], shown(2, 3)])
                told = ask(THREE_AND_THREE, take(1, place), LAY, SHOWS)
                self.assertEqual(told[1], laid(much, *ones[:place], (1, 0), *ones[place:]))
                self.assertEqual(told[2:], [told[1], shown(3, 2)])

    def test_the_only_one(self):
        self.assertEqual(ask(texts(plain(7), []), take(0, 0), SHOWS)[1:], [laid(0), shown(0, 0)])
        self.assertEqual(ask(texts([], plain(7)), take(1, 0), SHOWS)[1:], [laid(0), shown(0, 0)])
        self.assertEqual(last(texts(plain(7), plain(9)), fix(0, 0), take(0, 0)), laid(12, (0, 1)))
        self.assertEqual(last(texts(plain(7), plain(9)), fix(0, 0), take(1, 0), SHOWS), shown(1, 0))

    def test_its_pairs_are_gone_and_the_others_go_along(self):
        pairs = ((0, [(1, 2), (0, 1)]), (1, [(1, 2), (0, 0)]), (2, [(0, 0), (1, 1)]))
        for place, fixed in pairs:
            with self.subTest(place=place):
                self.assertEqual(last(*FIXED, take(0, place), SHOWS), shown(2, 3, *fixed))
        pairs = ((0, [(2, 1), (1, 0)]), (1, [(2, 1), (0, 0)]), (2, [(0, 0), (1, 1)]))
        for place, fixed in pairs:
            with self.subTest(place=place):
                self.assertEqual(last(*FIXED, take(1, place), SHOWS), shown(3, 2, *fixed))

    def test_all_its_pairs_are_gone(self):
        before = texts(plain(1, 1, 1), plain(1, 1, 1)), fix(1, 1), fix(0, 0), fix(1, 2), fix(2, 2), fix(2, 1)
        self.assertEqual(last(*before, take(0, 1), SHOWS), shown(2, 3, (0, 0), (1, 2), (1, 1)))
        self.assertEqual(last(*before, take(1, 2), SHOWS), shown(3, 2, (1, 1), (0, 0), (2, 1)))

    def test_only_the_texts_own_sentences_move(self):
        before = texts(plain(1, 1, 1), plain(1, 1, 1)), fix(0, 2)
        self.assertEqual(last(*before, take(0, 1), SHOWS), shown(2, 3, (0, 2)))
        self.assertEqual(last(*before, take(0, 2), SHOWS), shown(2, 3, (0, 2)))
        self.assertEqual(last(*before, take(1, 1), SHOWS), shown(3, 2, (0, 1)))
        self.assertEqual(last(*before, take(1, 0), SHOWS), shown(3, 2, (0, 1)))

    def test_the_pair_is_fixed_where_it_stands_now(self):
        told = ask(*FIXED, take(0, 0), fix(1, 2), free(2, 2), free(1, 2), SHOWS)
        self.assertEqual(told[5:], [[-4], [-2], [12 + 10], shown(2, 3, (0, 1))])

    def test_what_kept_apart_is_gone(self):
        told = ask(texts(plain(5, 5), plain(5)), fix(0, 0), fix(1, 0), take(0, 1), cost((1, 1)))
        self.assertEqual(told[3:], [laid(0, (1, 1)), [0]])

    def test_put_in_again_nothing_is_fixed_there(self):
        told = ask(texts(plain(5, 6), plain(5, 6)), fix(1, 0), take(0, 1), put(0, 1, 6), SHOWS)
        self.assertEqual(told[2:], [laid(11, (1, 2)), laid(0, (1, 1), (1, 1)), shown(2, 2)])

    def test_till_nothing_is_left(self):
        told = ask(*FIXED, take(0, 2), take(0, 0), take(0, 0), take(0, 0), SHOWS)
        self.assertEqual(told[5:], [laid(44, (0, 1), (1, 1), (0, 1)), laid(56, (0, 1), (0, 1), (0, 1)), [-2],
                                    shown(0, 3)])

    def test_no_such_sentence(self):
        before = texts(plain(1, 2, 3), plain(2, 1)), fix(2, 1), LAY, SHOWS
        for side, sentence in ((0, 3), (1, 2), (0, 14), (1, 14), (0, HUGE), (1, HUGE)):
            with self.subTest(side=side, sentence=sentence):
                told = ask(*before, take(side, sentence), LAY, SHOWS)
                self.assertEqual(told[4], [-2])
                self.assertEqual(told[5:], told[2:4])

    def test_an_empty_text(self):
        self.assertEqual(ask(take(0, 0), take(1, 0)), [[-2], [-2]])
        self.assertEqual(last(texts(plain(1), []), take(1, 0)), [-2])
        self.assertEqual(last(texts([], plain(1)), take(0, 0)), [-2])

    def test_no_laying_then_but_it_is_done(self):
        told = ask(*no_laying(), put(0, 3, 9), take(0, 3), SHOWS, take(0, 3), LAY, take(0, 1), SHOWS)
        self.assertEqual(told[4:], [[-6], [-6], shown(3, 1, (0, 0), (2, 0)), [-2], [-6], laid(6, (2, 1)),
                                    shown(2, 1, (0, 0), (1, 0))])

    def test_no_laying_then_but_its_pairs_are_gone(self):
        before = texts(plain(1, 1, 1), plain(1, 1)), fix(0, 0), fix(1, 0), fix(2, 1), put(0, 1, 5)
        told = ask(*before, take(1, 1), SHOWS, free(3, 1))
        self.assertEqual(told[4:], [[-6], [-6], shown(4, 1, (0, 0), (2, 0)), [-2]])


if __name__ == "__main__":
    unittest.main()
