"""Layings: what beads cost, and which laying is told."""

import unittest

from tests.lines import LAY, ask, costs, fix, laid, last, plain, texts


class NoSentences(unittest.TestCase):
    def test_at_the_beginning_of_a_line(self):
        self.assertEqual(ask(LAY), [laid(0)])

    def test_in_both(self):
        self.assertEqual(last(texts([], []), LAY), laid(0))

    def test_in_the_first(self):
        self.assertEqual(last(texts([], plain(1, 2, 3)), LAY), laid(36, (0, 1), (0, 1), (0, 1)))

    def test_in_the_second(self):
        self.assertEqual(last(texts(plain(1, 2, 3), []), LAY), laid(36, (1, 0), (1, 0), (1, 0)))


class Beginning(unittest.TestCase):
    def test_costs_at_the_beginning(self):
        shapes = (((1,), (1,), 0), ((2,), (1, 1), 5), ((1, 1), (2,), 5), ((1,), (), 12), ((), (1,), 12))
        for first, second, much in shapes:
            with self.subTest(first=first, second=second):
                self.assertEqual(last(texts(plain(*first), plain(*second)), LAY),
                                 laid(much, (len(first), len(second))))

    def test_two_with_two_at_the_beginning(self):
        self.assertEqual(last(texts(plain(9, 50), plain(50, 9)), LAY), laid(8, (2, 2)))

    def test_share_and_weight_and_anchor_at_the_beginning(self):
        self.assertEqual(last(texts([(5, 1)], [(8,)]), LAY), laid(3 + 10, (1, 1)))


class Lengths(unittest.TestCase):
    def test_apart_either_way(self):
        self.assertEqual(last(texts(plain(10), plain(17)), LAY), laid(7, (1, 1)))
        self.assertEqual(last(texts(plain(17), plain(10)), LAY), laid(7, (1, 1)))

    def test_lengths_of_a_side_go_together(self):
        self.assertEqual(last(texts(plain(30), plain(10, 18)), LAY), laid(5 + 2, (1, 2)))
        self.assertEqual(last(texts(plain(10, 18), plain(30)), LAY), laid(5 + 2, (2, 1)))

    def test_rounded_down(self):
        for share, much in ((100, 0), (101, 0), (199, 0), (200, 1), (299, 1), (300, 2), (99, 0), (1, 0)):
            with self.subTest(share=share):
                self.assertEqual(last(costs(share=share), texts(plain(1), plain(1)), LAY), laid(much, (1, 1)))

    def test_rounded_down_where_the_second_side_is_longer(self):
        self.assertEqual(last(costs(share=50), texts(plain(1), plain(1)), LAY), laid(0, (1, 1)))
        self.assertEqual(last(costs(share=50), texts(plain(1), plain(2)), LAY), laid(1, (1, 1)))

    def test_rounded_down_before_it_is_weighed(self):
        calls = costs(share=199, weight=99), texts(plain(1), plain(0))
        self.assertEqual(last(*calls, fix(0, 0), LAY), laid(99, (1, 1)))

    def test_rounded_down_for_a_bead_not_for_each_sentence(self):
        calls = costs((0, 0, 0, 0, 99, 99), share=150), texts(plain(1, 1), plain(0))
        self.assertEqual(last(*calls, LAY), laid(3, (2, 1)))

    def test_rounded_down_bead_by_bead(self):
        calls = costs((0, 99, 99, 99, 99, 99), share=150), texts(plain(1, 1), plain(1, 1))
        self.assertEqual(last(*calls, LAY), laid(0, (1, 1), (1, 1)))

    def test_lengths_of_a_bead_with_an_empty_side_cost_nothing(self):
        self.assertEqual(last(costs(weight=99), texts(plain(999), []), LAY), laid(12, (1, 0)))
        self.assertEqual(last(costs(weight=99), texts([], plain(999)), LAY), laid(12, (0, 1)))

    def test_too_far_apart_to_stand_together(self):
        self.assertEqual(last(texts(plain(10), plain(33)), LAY), laid(23, (1, 1)))
        self.assertEqual(last(texts(plain(10), plain(35)), LAY), laid(24, (1, 0), (0, 1)))


class Anchors(unittest.TestCase):
    def lay_one_to_one(self, first, second):
        return last(costs((0, 99, 99, 99, 999, 999)), texts([(0, *first)], [(0, *second)]), LAY)

    def test_in_both_sides(self):
        self.assertEqual(self.lay_one_to_one((3, 4), (4, 3)), laid(0, (1, 1)))

    def test_lacking_in_either_side(self):
        self.assertEqual(self.lay_one_to_one((3,), ()), laid(10, (1, 1)))
        self.assertEqual(self.lay_one_to_one((), (3,)), laid(10, (1, 1)))
        self.assertEqual(self.lay_one_to_one((3,), (4,)), laid(20, (1, 1)))

    def test_as_often_as_it_is_lacking(self):
        self.assertEqual(self.lay_one_to_one((7, 7), (7,)), laid(10, (1, 1)))
        self.assertEqual(self.lay_one_to_one((7,), (7, 7)), laid(10, (1, 1)))
        self.assertEqual(self.lay_one_to_one((7, 7), ()), laid(20, (1, 1)))
        self.assertEqual(self.lay_one_to_one((7, 7, 7, 7), (7,)), laid(30, (1, 1)))
        self.assertEqual(self.lay_one_to_one((7, 7), (7, 7)), laid(0, (1, 1)))

    def test_of_two_sentences_go_together(self):
        calls = costs((99, 0, 0, 99, 99, 99)), texts([(0, 7, 7)], [(0, 7), (0, 7)])
        self.assertEqual(last(*calls, LAY), laid(0, (1, 2)))
        calls = costs((99, 0, 0, 99, 99, 99)), texts([(0, 7), (0, 7)], [(0, 7)])
        self.assertEqual(last(*calls, LAY), laid(10, (2, 1)))

    def test_of_a_bead_with_an_empty_side_are_lacking(self):
        self.assertEqual(last(texts([(5, 1, 1, 2)], []), LAY), laid(12 + 30, (1, 0)))
        self.assertEqual(last(texts([], [(5, 1, 2)]), LAY), laid(12 + 20, (0, 1)))

    def test_tell_which_sentence_belongs_to_which(self):
        call = texts([(10,), (10, 5), (10,)], [(10, 5), (10,)])
        self.assertEqual(last(call, LAY), laid(12, (1, 0), (1, 1), (1, 1)))

    def test_weight_does_not_touch_them(self):
        self.assertEqual(last(costs(weight=0), texts([(0, 1)], [(0,)]), LAY), laid(10, (1, 1)))


class FirstOfSeveral(unittest.TestCase):
    def test_the_kinds_order_where_all_cost_nothing(self):
        shapes = (
            ((1, 1), [(1, 1)]),
            ((1, 2), [(1, 1), (0, 1)]),
            ((2, 1), [(1, 1), (1, 0)]),
            ((2, 2), [(1, 1), (1, 1)]),
            ((2, 3), [(1, 1), (1, 1), (0, 1)]),
            ((3, 1), [(1, 1), (1, 0), (1, 0)]),
        )
        for (many, others), beads in shapes:
            with self.subTest(many=many, others=others):
                call = texts(plain(*[0] * many), plain(*[0] * others))
                self.assertEqual(last(costs((0,) * 6), call, LAY), laid(0, *beads))

    def test_each_kind_is_ahead_of_the_next(self):
        dear = 500
        shapes = (
            # 1 1 ahead of 1 2, then 1 2 ahead of 2 1, and so on down the order.
            ((1, 5, 5, dear, dear, dear), (2, 3), [(1, 1), (1, 2)]),
            ((dear, 5, 5, dear, dear, dear), (3, 3), [(1, 2), (2, 1)]),
            ((dear, dear, 4, 4, dear, dear), (4, 3), [(2, 1), (2, 2)]),
            ((dear, dear, dear, 4, 4, dear), (3, 2), [(2, 2), (1, 0)]),
            ((dear, dear, dear, dear, 4, 4), (2, 1), [(1, 0), (1, 0), (0, 1)]),
        )
        for kinds, (many, others), beads in shapes:
            with self.subTest(kinds=kinds):
                call = texts(plain(*[0] * many), plain(*[0] * others))
                much = 0
                for bead in beads:
                    much += kinds[((1, 1), (1, 2), (2, 1), (2, 2), (1, 0), (0, 1)).index(bead)]
                self.assertEqual(last(costs(kinds), call, LAY), laid(much, *beads))

    def test_the_first_bead_decides_not_how_many_beads(self):
        one_and_two = texts(plain(0), plain(0, 0))
        self.assertEqual(last(costs((99, 12, 99, 99, 4, 4)), one_and_two, LAY), laid(12, (1, 2)))
        two_and_two = texts(plain(0, 0), plain(0, 0))
        self.assertEqual(last(costs((9, 99, 99, 18, 99, 99)), two_and_two, LAY), laid(18, (1, 1), (1, 1)))

    def test_a_later_bead_decides_where_the_first_is_the_same(self):
        call = texts(plain(0, 0, 0), plain(0, 0))
        self.assertEqual(last(costs((2, 99, 6, 99, 4, 99)), call, LAY), laid(8, (1, 1), (1, 1), (1, 0)))
        self.assertEqual(last(costs((2, 99, 5, 99, 4, 99)), call, LAY), laid(7, (1, 1), (2, 1)))

    def test_less_goes_ahead_of_first(self):
        call = texts(plain(10, 10), plain(20, 0))
        self.assertEqual(last(call, costs((0, 0, 0, 8, 12, 12)), LAY), laid(8, (2, 2)))

    def test_among_those_alone_that_keep_what_is_fixed(self):
        call = texts(plain(0, 0), plain(0, 0))
        self.assertEqual(last(costs((0,) * 6), call, fix(1, 0), LAY), laid(0, (2, 1), (0, 1)))
        self.assertEqual(last(costs((0,) * 6), call, fix(0, 1), LAY), laid(0, (1, 2), (1, 0)))


class Laid(unittest.TestCase):
    def test_each_sentence_is_in_one_bead(self):
        told = last(texts(plain(*range(14)), plain(*range(13, 0, -1))), LAY)
        self.assertEqual(len(told), 2 + 2 * told[1])
        self.assertEqual((sum(told[2::2]), sum(told[3::2])), (14, 13))

    def test_as_many_beads_as_there_can_be(self):
        call = texts(plain(*[9] * 14), plain(*[9] * 14))
        self.assertEqual(last(costs((999, 999, 999, 999, 0, 0)), call, LAY), laid(0, *[(1, 0)] * 14, *[(0, 1)] * 14))

    def test_told_again_it_is_the_same(self):
        told = ask(texts(plain(4, 9, 2), plain(9, 6)), LAY, LAY)
        self.assertEqual(told[1], told[2])


if __name__ == "__main__":
    unittest.main()
