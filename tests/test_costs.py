"""Promise 1, of costs."""

import unittest

from tests.lines import HUGE, LAY, ask, cost, costs, fix, free, laid, last, plain, texts

BEYOND = (1000, HUGE)


class Costs(unittest.TestCase):
    def test_answers_nothing_but_zero(self):
        self.assertEqual(ask(costs()), [[0]])

    def test_each_kind_has_its_own_cost(self):
        kinds = (1, 2, 4, 8, 16, 32)
        beads = ((1, 1), (1, 2), (2, 1), (2, 2), (1, 0), (0, 1))
        for bead, much in zip(beads, kinds):
            with self.subTest(bead=bead):
                call = texts(plain(*[0] * bead[0]), plain(*[0] * bead[1]))
                self.assertEqual(last(costs(kinds), call, cost(bead)), [much])

    def test_least_and_greatest_are_taken(self):
        for call in (costs((0,) * 6, 1, 0, 0), costs((999,) * 6, 999, 99, 999)):
            with self.subTest(call=call):
                self.assertEqual(ask(call), [[0]])

    def test_greatest_are_reckoned_with(self):
        answer = last(costs((999,) * 6, 999, 99, 999), texts([(999, 1)], [(0,)]), cost((1, 1)))
        self.assertEqual(answer, [999 + 999 + 99 * (999 * 999 // 100)])

    def test_share_of_one(self):
        self.assertEqual(last(costs(share=1), texts(plain(200), plain(5)), cost((1, 1))), [3])

    def test_weight_and_anchor_of_nothing(self):
        calls = costs(weight=0, anchor=0), texts([(999, 1)], [(0, 2)])
        self.assertEqual(last(*calls, LAY), laid(0, (1, 1)))

    def test_a_kind_above_999(self):
        for place in range(6):
            for beyond in BEYOND:
                with self.subTest(place=place, beyond=beyond):
                    kinds = [0] * 6
                    kinds[place] = beyond
                    self.assertEqual(ask(costs(kinds)), [[-1]])

    def test_share_not_1_to_999(self):
        for share in (0, *BEYOND):
            with self.subTest(share=share):
                self.assertEqual(ask(costs(share=share)), [[-1]])

    def test_weight_above_99(self):
        for weight in (100, *BEYOND):
            with self.subTest(weight=weight):
                self.assertEqual(ask(costs(weight=weight)), [[-1]])

    def test_anchor_above_999(self):
        for anchor in BEYOND:
            with self.subTest(anchor=anchor):
                self.assertEqual(ask(costs(anchor=anchor)), [[-1]])

    def test_all_is_as_it_was_after_a_refusal(self):
        kinds = (1, 2, 3, 4, 5, 6)
        before = costs(kinds, 150, 2, 7), texts([(10, 1), (20,)], [(30,), (7, 2)]), fix(0, 0), LAY
        others = (9, 9, 9, 9, 9, 9)
        refused = (
            costs((9, 9, 9, 9, 9, 1000), 200, 3, 9),
            costs(others, 0, 3, 9),
            costs(others, 1000, 3, 9),
            costs(others, 200, 100, 9),
            costs(others, 200, 3, 1000),
        )
        for call in refused:
            with self.subTest(call=call):
                told = ask(*before, call, LAY, fix(0, 0))
                self.assertEqual(told[4], [-1])
                self.assertEqual(told[5], told[3])
                self.assertEqual(told[6], [-4])

    def test_texts_and_fixed_pairs_stay(self):
        told = ask(texts(plain(5), plain(5)), fix(0, 0), costs((50, 5, 5, 8, 12, 12)), LAY, free(0, 0), LAY)
        self.assertEqual(told[3:], [laid(50, (1, 1)), [24], laid(24, (1, 0), (0, 1))])

    def test_new_costs_take_the_place_of_old_ones(self):
        told = ask(texts(plain(5), plain(7)), LAY, costs(weight=3), LAY, costs(share=140), LAY)
        self.assertEqual(told[1::2], [laid(2, (1, 1)), laid(6, (1, 1)), laid(0, (1, 1))])


if __name__ == "__main__":
    unittest.main()
