"""The call shows."""

import unittest

from tests.lines import (
    HUGE, LAY, SHOWS, ask, bead_of, cost, costs, fix, free, last, plain, put, shown, take, texts, try_pair,
)

THREE_AND_TWO = texts(plain(1, 1, 1), plain(1, 1))


class Shows(unittest.TestCase):
    def test_at_the_beginning(self):
        self.assertEqual(ask(SHOWS), [shown(0, 0)])

    def test_how_many_sentences_both_have(self):
        self.assertEqual(last(THREE_AND_TWO, SHOWS), shown(3, 2))
        self.assertEqual(last(texts([], plain(1)), SHOWS), shown(0, 1))
        full = plain(*[0] * 14)
        self.assertEqual(last(texts(full, full), SHOWS), shown(14, 14))

    def test_pairs_in_the_order_in_which_they_were_fixed(self):
        self.assertEqual(last(THREE_AND_TWO, fix(2, 1), fix(0, 0), fix(1, 0), SHOWS),
                         shown(3, 2, (2, 1), (0, 0), (1, 0)))

    def test_behind_free(self):
        before = THREE_AND_TWO, fix(2, 1), fix(0, 0), fix(1, 0)
        self.assertEqual(last(*before, free(0, 0), SHOWS), shown(3, 2, (2, 1), (1, 0)))
        self.assertEqual(last(*before, free(2, 1), free(0, 0), free(1, 0), SHOWS), shown(3, 2))

    def test_freed_and_fixed_again_it_is_the_last(self):
        told = ask(THREE_AND_TWO, fix(2, 1), fix(0, 0), fix(1, 0), free(2, 1), fix(2, 1), SHOWS)
        self.assertEqual(told[6], shown(3, 2, (0, 0), (1, 0), (2, 1)))

    def test_behind_put_and_take_the_order_stays(self):
        before = THREE_AND_TWO, fix(2, 1), fix(0, 0), fix(1, 0)
        self.assertEqual(last(*before, put(0, 2, 1), SHOWS), shown(4, 2, (3, 1), (0, 0), (1, 0)))
        self.assertEqual(last(*before, put(1, 0, 1), SHOWS), shown(3, 3, (2, 2), (0, 1), (1, 1)))
        self.assertEqual(last(*before, take(0, 0), SHOWS), shown(2, 2, (1, 1), (0, 0)))
        self.assertEqual(last(*before, take(1, 0), SHOWS), shown(3, 1, (2, 0)))

    def test_behind_texts_nothing_is_fixed(self):
        self.assertEqual(last(THREE_AND_TWO, fix(0, 0), texts(plain(1), plain(1)), SHOWS), shown(1, 1))
        self.assertEqual(last(THREE_AND_TWO, fix(0, 0), THREE_AND_TWO, SHOWS), shown(3, 2))

    def test_behind_what_was_refused_and_what_changes_nothing(self):
        calls = (
            fix(0, 0), fix(2, 0), fix(3, 0), free(0, 1), texts(plain(1000), []), take(0, 3), take(1, 2),
            put(0, 4, 1), put(1, 0, 1000), costs(share=0), cost((1, 1)), try_pair(1, 0), try_pair(2, 0),
            bead_of(0, 0), bead_of(2, 0), bead_of(0, HUGE), costs(), LAY, SHOWS,
        )
        for call in calls:
            with self.subTest(call=call):
                self.assertEqual(last(THREE_AND_TWO, fix(2, 1), fix(0, 0), call, SHOWS),
                                 shown(3, 2, (2, 1), (0, 0)))

    def test_shown_again_it_is_the_same(self):
        told = ask(THREE_AND_TWO, fix(2, 1), SHOWS, SHOWS)
        self.assertEqual(told[2:], [shown(3, 2, (2, 1))] * 2)


if __name__ == "__main__":
    unittest.main()
