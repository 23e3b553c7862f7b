"""Promise 1, of put."""

import unittest

from tests.lines import (
    HUGE, LAY, SHOWS, ask, bead_of, cost, costs, fix, free, laid, last, no_laying, plain, put, shown, take, texts,
    try_pair,
)

TWO_AND_TWO = texts(plain(10, 20), plain(10, 20))
THREE_AND_THREE = texts(plain(1, 1, 1), plain(1, 1, 1))


class Put(unittest.TestCase):
    def test_at_the_beginning_in_the_middle_at_the_end(self):
        ones = [(1, 1), (1, 1)]
        for place in range(3):
            with self.subTest(place=place):
                told = ask(TWO_AND_TWO, put(0, place, 100), LAY, SHOWS)
                self.assertEqual(told[1], laid(12, *ones[:place], (1, 0), *ones[place:]))
                self.assertEqual(told[2:], [told[1], shown(3, 2)])
                told = ask(TWO_AND_TWO, put(1, place, 100), LAY, SHOWS)
                self.assertEqual(told[1], laid(12, *ones[:place], (0, 1), *ones[place:]))
                self.assertEqual(told[2:], [told[1], shown(2, 3)])

    def test_into_empty_texts(self):
        self.assertEqual(ask(put(0, 0, 7), SHOWS), [laid(12, (1, 0)), shown(1, 0)])
        self.assertEqual(ask(put(1, 0, 7), SHOWS), [laid(12, (0, 1)), shown(0, 1)])
        self.assertEqual(ask(put(1, 0, 7), put(0, 0, 9))[1], laid(2, (1, 1)))

    def test_its_length_and_its_anchors(self):
        told = ask(put(0, 0, 7, 3, 3, 999), put(1, 0, 9, 3), cost((1, 1)), cost((1, 0), (0, 1)))
        self.assertEqual(told, [laid(42, (1, 0)), laid(22, (1, 1)), [2 + 20], [42 + 22]])

    def test_one_behind_another(self):
        told = ask(put(0, 0, 30), put(0, 0, 10), put(0, 1, 20), texts([], []), SHOWS)
        self.assertEqual(told[2:], [laid(36, (1, 0), (1, 0), (1, 0)), [0, 0], shown(0, 0)])
        filled = put(0, 0, 30), put(0, 0, 10), put(0, 1, 20), put(1, 0, 30), put(1, 0, 20), put(1, 0, 10)
        self.assertEqual(last(*filled), laid(0, (1, 1), (1, 1), (1, 1)))

    def test_an_equal_sentence_is_another_one(self):
        calls = texts(plain(10), plain(10)), put(0, 0, 10), fix(0, 0)
        self.assertEqual(ask(*calls, LAY)[1:], [laid(12, (1, 1), (1, 0)), [12], laid(12, (1, 1), (1, 0))])

    def test_pairs_go_along(self):
        moved = (
            (0, 0, [(1, 0), (2, 1), (3, 2)]),
            (0, 1, [(0, 0), (2, 1), (3, 2)]),
            (0, 2, [(0, 0), (1, 1), (3, 2)]),
            (0, 3, [(0, 0), (1, 1), (2, 2)]),
            (1, 0, [(0, 1), (1, 2), (2, 3)]),
            (1, 1, [(0, 0), (1, 2), (2, 3)]),
            (1, 2, [(0, 0), (1, 1), (2, 3)]),
            (1, 3, [(0, 0), (1, 1), (2, 2)]),
        )
        for side, place, fixed in moved:
            with self.subTest(side=side, place=place):
                alone = (1 - side, side)
                beads = [(1, 1)] * place + [alone] + [(1, 1)] * (3 - place)
                told = ask(THREE_AND_THREE, *[fix(i, i) for i in range(3)], put(side, place, 5), SHOWS, cost(*beads))
                self.assertEqual(told[5:], [shown(4 - side, 3 + side, *fixed), [12]])

    def test_only_the_texts_own_sentences_move(self):
        before = THREE_AND_THREE, fix(0, 2)
        self.assertEqual(last(*before, put(0, 1, 1), SHOWS), shown(4, 3, (0, 2)))
        self.assertEqual(last(*before, put(1, 1, 1), SHOWS), shown(3, 4, (0, 3)))
        before = THREE_AND_THREE, fix(2, 0)
        self.assertEqual(last(*before, put(1, 1, 1), SHOWS), shown(3, 4, (2, 0)))
        self.assertEqual(last(*before, put(0, 1, 1), SHOWS), shown(4, 3, (3, 0)))

    def test_the_pair_is_fixed_where_it_stands_now(self):
        told = ask(TWO_AND_TWO, fix(1, 1), put(0, 0, 90), free(1, 1), fix(2, 1), free(2, 1), SHOWS)
        self.assertEqual(told[3:], [[-2], [-4], [12], shown(3, 2)])

    def test_thirteen_and_fourteen_sentences(self):
        thirteen = plain(*[0] * 13)
        for side in (0, 1):
            for place in (0, 7, 13):
                with self.subTest(side=side, place=place):
                    call = texts(*([thirteen, []] if side == 0 else [[], thirteen]))
                    told = ask(call, put(side, place, 999, 1, 2, 3, 4), SHOWS, put(side, place, 0), SHOWS)
                    self.assertEqual(told[1][:2], [14 * 12 + 40, 14])
                    self.assertEqual(told[3:], [[-5], told[2]])
                    self.assertEqual(told[2], shown(14, 0) if side == 0 else shown(0, 14))

    def test_fourteen_in_one_text_leave_the_other_open(self):
        full = plain(*[0] * 14)
        self.assertEqual(last(texts(full, []), put(0, 0, 0)), [-5])
        self.assertEqual(last(texts(full, plain(*[0] * 13)), put(1, 13, 0)), laid(0, *[(1, 1)] * 14))
        self.assertEqual(last(texts(plain(*[0] * 13), full), put(0, 0, 0)), laid(0, *[(1, 1)] * 14))
        self.assertEqual(last(texts(full, full), put(0, 14, 0)), [-5])
        self.assertEqual(last(texts(full, full), put(1, 14, 0)), [-5])

    def test_room_again_after_take(self):
        full = texts(plain(*[0] * 14), [])
        self.assertEqual(ask(full, put(0, 3, 0), take(0, 13), put(0, 13, 0), put(0, 0, 0))[3:],
                         [laid(168, *[(1, 0)] * 14), [-5]])


class Refused(unittest.TestCase):
    def check(self, call, number):
        """The refusal, and that all is as it was then."""
        before = texts([(5, 1), (7,)], [(5,), (9, 2)]), fix(0, 1), fix(1, 1), LAY, SHOWS
        with self.subTest(call=call):
            told = ask(*before, call, LAY, SHOWS)
            self.assertEqual(told[5], [number])
            self.assertEqual(told[6:], told[3:5])

    def test_length_of_999_and_no_more(self):
        for side in (0, 1):
            self.assertEqual(len(ask(put(side, 0, 0))[0]), 4)
            self.assertEqual(len(ask(put(side, 0, 999))[0]), 4)
            self.check(put(side, 0, 1000), -1)
            self.check(put(side, 2, HUGE), -1)

    def test_anchor_of_999_and_no_more(self):
        for side in (0, 1):
            self.assertEqual(ask(put(side, 0, 5, 999, 0, 999, 999))[0][0], 12 + 40)
            for beyond in (1000, HUGE):
                for place in range(4):
                    anchors = [999] * 4
                    anchors[place] = beyond
                    self.check(put(side, 0, 5, *anchors), -1)

    def test_four_anchors_and_no_more(self):
        for side in (0, 1):
            for many in range(5):
                self.assertEqual(ask(put(side, 0, 5, *[7] * many))[0][0], 12 + 10 * many)
            self.check(put(side, 0, 5, *[7] * 5), -1)
            self.check(put(side, 0, 5, *[7] * 20), -1)

    def test_place_beyond_the_end(self):
        for side in (0, 1):
            self.assertEqual(ask(put(side, 1, 5)), [[-1]])
            self.assertEqual(ask(put(side, HUGE, 5)), [[-1]])
            self.check(put(side, 3, 5), -1)
            self.check(put(side, 14, 5), -1)
            self.check(put(side, HUGE, 5), -1)

    def test_place_beyond_the_end_of_its_own_text(self):
        self.assertEqual(last(texts(plain(1), plain(1, 1, 1)), put(0, 2, 1)), [-1])
        self.assertEqual(last(texts(plain(1, 1, 1), plain(1)), put(1, 2, 1)), [-1])
        self.assertEqual(last(texts(plain(1), plain(1, 1, 1)), put(1, 3, 1), SHOWS), shown(1, 4))
        self.assertEqual(last(texts(plain(1, 1, 1), plain(1)), put(0, 3, 1), SHOWS), shown(4, 1))

    def test_what_does_not_fit_is_told_ahead_of_no_room(self):
        full = plain(*[0] * 14)
        for side in (0, 1):
            for call in (put(side, 0, 1000), put(side, 0, 0, 1000), put(side, 0, 0, 1, 2, 3, 4, 5), put(side, 15, 0)):
                with self.subTest(call=call):
                    self.assertEqual(ask(texts(full, full), call, put(side, 14, 0))[1:], [[-1], [-5]])

    def test_all_is_as_it_was_after_no_room(self):
        full = texts(plain(*range(14)), plain(*range(14, 0, -1)))
        for side in (0, 1):
            told = ask(full, fix(3, 3), fix(5, 6), LAY, SHOWS, put(side, 4, 999), LAY, SHOWS)
            self.assertEqual(told[5], [-5])
            self.assertEqual(told[6:], told[3:5])


class NoLayingThen(unittest.TestCase):
    """-6 is an answer: the sentence is in."""

    def after(self, *calls):
        return ask(*no_laying(), *calls)[3:]

    def test_between_two_that_are_fixed_to_one(self):
        self.assertEqual(self.after(SHOWS, LAY), [[-6], shown(3, 1, (0, 0), (2, 0)), [-6]])

    def test_likewise_in_the_second_text(self):
        told = ask(texts(plain(1), plain(1, 1)), fix(0, 0), fix(0, 1), put(1, 1, 5), SHOWS)
        self.assertEqual(told[3:], [[-6], shown(1, 3, (0, 0), (0, 2))])

    def test_fix_goes_on(self):
        told = self.after(fix(1, 0), SHOWS, fix(0, 0), fix(3, 0), fix(0, 1))
        self.assertEqual(told, [[-6], [-6], shown(3, 1, (0, 0), (2, 0)), [-4], [-2], [-2]])

    def test_pair_and_bead_go_on(self):
        told = self.after(try_pair(1, 0), try_pair(2, 0), bead_of(0, 1), bead_of(1, 0), SHOWS)
        self.assertEqual(told, [[-6]] * 5 + [shown(3, 1, (0, 0), (2, 0))])

    def test_cost_goes_on(self):
        told = self.after(cost((1, 1), (1, 0), (1, 0)), cost((2, 1), (1, 0)), cost((3, 1)), cost((2, 1)))
        self.assertEqual(told[1:], [[-4], [-4], [-1], [-1]])

    def test_free_goes_on(self):
        told = self.after(free(1, 0), free(2, 0), LAY, SHOWS)
        self.assertEqual(told[1:], [[-2], [22], laid(22, (2, 1), (1, 0)), shown(3, 1, (0, 0))])

    def test_take_goes_on(self):
        self.assertEqual(self.after(take(0, 1), SHOWS)[1:], [laid(6, (2, 1)), shown(2, 1, (0, 0), (1, 0))])
        self.assertEqual(self.after(take(0, 0), SHOWS)[1:], [laid(10, (2, 1)), shown(2, 1, (1, 0))])
        self.assertEqual(self.after(take(1, 0), SHOWS)[1:], [laid(36, (1, 0), (1, 0), (1, 0)), shown(3, 0)])
        self.assertEqual(self.after(take(0, 3), take(1, 1))[1:], [[-2], [-2]])

    def test_put_goes_on(self):
        told = self.after(put(1, 1, 3), put(0, 5, 3), put(0, 0, 1000), SHOWS)
        self.assertEqual(told[1:], [[-6], [-1], [-1], shown(3, 2, (0, 0), (2, 0))])

    def test_texts_and_costs_go_on(self):
        told = self.after(costs((1, 5, 5, 8, 12, 12)), LAY, texts(plain(4), plain(4)), LAY, SHOWS)
        self.assertEqual(told[1:], [[0], [-6], [1, 1], laid(1, (1, 1)), shown(1, 1)])

    def test_a_refusal_is_another_matter(self):
        told = ask(TWO_AND_TWO, fix(0, 0), put(0, 3, 1), SHOWS)
        self.assertEqual(told[2:], [[-1], shown(2, 2, (0, 0))])


if __name__ == "__main__":
    unittest.main()
