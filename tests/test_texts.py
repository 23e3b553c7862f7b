"""Promise 1, of texts."""

import unittest

from tests.lines import HUGE, LAY, ask, cost, fix, free, laid, last, plain, texts


class Texts(unittest.TestCase):
    def test_answers_how_many_sentences_each_has(self):
        self.assertEqual(ask(texts(plain(1, 2, 3), plain(4))), [[3, 1]])

    def test_no_sentences(self):
        self.assertEqual(ask(texts([], [])), [[0, 0]])
        self.assertEqual(ask(texts([], plain(1))), [[0, 1]])
        self.assertEqual(ask(texts(plain(1), [])), [[1, 0]])

    def test_first_texts_sentences_are_ahead(self):
        calls = texts([(10, 1, 2), (20,)], [(30, 3)]),
        self.assertEqual(last(*calls, cost((1, 0), (1, 1))), [12 + 20 + 0 + 10 + 10])

    def test_fourteen_sentences_and_no_more_in_either(self):
        many = plain(*[0] * 14)
        more = plain(*[0] * 15)
        self.assertEqual(ask(texts(many, many)), [[14, 14]])
        self.assertEqual(ask(texts(more, [])), [[-1]])
        self.assertEqual(ask(texts([], more)), [[-1]])
        self.assertEqual(ask(texts(more, more)), [[-1]])
        self.assertEqual(ask(texts(plain(*[0] * 100), [])), [[-1]])

    def test_fourteen_full_sentences_in_both(self):
        full = [(999, 999, 999, 999, 999)] * 14
        self.assertEqual(ask(texts(full, full), LAY), [[14, 14], laid(0, *[(1, 1)] * 14)])

    def test_length_of_999_and_no_more(self):
        self.assertEqual(ask(texts(plain(0, 999), plain(999))), [[2, 1]])
        for beyond in (1000, HUGE):
            self.assertEqual(ask(texts(plain(1, beyond), plain(1))), [[-1]])
            self.assertEqual(ask(texts(plain(1), plain(1, beyond))), [[-1]])

    def test_anchor_of_999_and_no_more(self):
        self.assertEqual(ask(texts([(1, 0, 999)], [(1, 999)])), [[1, 1]])
        for beyond in (1000, HUGE):
            for place in range(4):
                anchors = [0] * 4
                anchors[place] = beyond
                self.assertEqual(ask(texts([(1, *anchors)], [])), [[-1]])
                self.assertEqual(ask(texts([], [(1,), (1, *anchors)])), [[-1]])

    def test_four_anchors_and_no_more(self):
        self.assertEqual(ask(texts([(1, 1, 2, 3, 4)], [(1, 1, 1, 1, 1)])), [[1, 1]])
        self.assertEqual(ask(texts([(1, 1, 2, 3, 4, 5)], [])), [[-1]])
        self.assertEqual(ask(texts([], [(1, 1, 1, 1, 1, 1)])), [[-1]])

    def test_several_faults_are_one_refusal(self):
        self.assertEqual(ask(texts([(1000, 1000, 1, 2, 3, 4)] * 15, [(1000,)] * 15)), [[-1]])

    def test_nothing_is_fixed_then(self):
        call = texts(plain(1, 1), plain(1, 1))
        self.assertEqual(ask(call, fix(0, 1), call, free(0, 1), LAY)[3:], [[-2], laid(0, (1, 1), (1, 1))])

    def test_new_texts_take_the_place_of_old_ones(self):
        told = ask(texts(plain(1, 2), plain(1, 2)), texts(plain(7), []), LAY)
        self.assertEqual(told[2], laid(12, (1, 0)))

    def test_all_is_as_it_was_after_a_refusal(self):
        before = texts([(5, 1), (7,)], [(5,), (9, 2)]), fix(0, 1), LAY
        refused = (
            texts(plain(*[0] * 15), []),
            texts([], plain(*[0] * 15)),
            texts(plain(1000), plain(1)),
            texts(plain(1), plain(1000)),
            texts([(1, 1000)], [(1,)]),
            texts([(1,)], [(1, 1, 2, 3, 4, 5)]),
        )
        for call in refused:
            with self.subTest(call=call):
                told = ask(*before, call, LAY, fix(0, 1))
                self.assertEqual(told[3], [-1])
                self.assertEqual(told[4], told[2])
                self.assertEqual(told[5], [-4])


if __name__ == "__main__":
    unittest.main()
