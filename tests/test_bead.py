"""Promise 2, of bead."""

import unittest

from tests.lines import HUGE, LAY, SHOWS, ask, bead_of, costs, fix, laid, last, no_laying, plain, put, texts

# Fixed pairs and kinds that cost nothing make one bead of each kind, in the kinds' order.
EACH_KIND = (
    costs((9, 0, 0, 0, 0, 0), weight=0),
    texts(plain(*[1] * 7), plain(*[1] * 7)),
    fix(0, 0),
    fix(1, 1),
    fix(1, 2),
    fix(2, 3),
    fix(3, 3),
    fix(4, 4),
    fix(4, 5),
    fix(5, 5),
)
TWO_AND_THREE = texts(plain(10, 30), plain(10, 10, 20))


class Bead(unittest.TestCase):
    def test_beads_of_each_kind(self):
        kinds = (1, 1), (1, 2), (2, 1), (2, 2), (1, 0), (0, 1)
        self.assertEqual(last(*EACH_KIND, LAY), laid(9, *kinds))

    def test_sentences_of_the_first_text(self):
        beads = [0, 0, 1, 0, 1], [1, 1, 2, 1, 3], [2, 2, 4, 3, 4], [3, 4, 6, 4, 6], [4, 6, 7, 6, 6]
        for sentence, which in enumerate((0, 1, 2, 2, 3, 3, 4)):
            with self.subTest(sentence=sentence):
                self.assertEqual(last(*EACH_KIND, bead_of(0, sentence)), beads[which])

    def test_sentences_of_the_second_text(self):
        beads = [0, 0, 1, 0, 1], [1, 1, 2, 1, 3], [2, 2, 4, 3, 4], [3, 4, 6, 4, 6], [], [5, 7, 7, 6, 7]
        for sentence, which in enumerate((0, 1, 1, 2, 3, 3, 5)):
            with self.subTest(sentence=sentence):
                self.assertEqual(last(*EACH_KIND, bead_of(1, sentence)), beads[which])

    def test_the_same_number_in_both_texts(self):
        self.assertEqual(last(TWO_AND_THREE, LAY), laid(5, (1, 1), (1, 2)))
        self.assertEqual(last(TWO_AND_THREE, bead_of(0, 1)), [1, 1, 2, 1, 3])
        self.assertEqual(last(TWO_AND_THREE, bead_of(1, 2)), [1, 1, 2, 1, 3])
        self.assertEqual(last(TWO_AND_THREE, bead_of(1, 0)), [0, 0, 1, 0, 1])

    def test_behind_beads_that_lack_the_text(self):
        left_out = texts(plain(10, 90, 90), plain(10))
        self.assertEqual(last(left_out, bead_of(0, 2)), [2, 2, 3, 1, 1])
        ahead = texts(plain(10), plain(90, 90, 10))
        self.assertEqual(last(ahead, bead_of(0, 0)), [2, 0, 1, 2, 3])
        self.assertEqual(last(ahead, bead_of(1, 1)), [1, 0, 0, 1, 2])

    def test_the_other_text_is_empty(self):
        self.assertEqual(last(texts(plain(1, 1), []), bead_of(0, 1)), [1, 1, 2, 0, 0])
        self.assertEqual(last(texts([], plain(1, 1)), bead_of(1, 1)), [1, 0, 0, 1, 2])

    def test_of_the_laying_told_among_several(self):
        told = ask(costs((0,) * 6), texts(plain(0), plain(0, 0)), bead_of(1, 1), fix(0, 1), bead_of(1, 1))
        self.assertEqual(told[2:], [[1, 1, 1, 1, 2], [0], [0, 0, 1, 0, 2]])

    def test_the_last_of_full_texts(self):
        full = texts(plain(*[1] * 14), plain(*[1] * 14))
        self.assertEqual(last(full, bead_of(0, 13)), [13, 13, 14, 13, 14])
        apart = costs((999, 999, 999, 999, 0, 0))
        self.assertEqual(last(full, apart, bead_of(0, 13)), [13, 13, 14, 0, 0])
        self.assertEqual(last(full, apart, bead_of(1, 13)), [27, 14, 14, 13, 14])

    def test_no_such_text(self):
        for side in (2, 3, HUGE):
            with self.subTest(side=side):
                self.assertEqual(last(TWO_AND_THREE, bead_of(side, 0)), [-2])
                self.assertEqual(last(TWO_AND_THREE, bead_of(side, HUGE)), [-2])
                self.assertEqual(ask(bead_of(side, 0)), [[-2]])

    def test_no_such_sentence(self):
        for side, sentence in ((0, 2), (0, 3), (1, 3), (0, HUGE), (1, HUGE)):
            with self.subTest(side=side, sentence=sentence):
                self.assertEqual(last(TWO_AND_THREE, bead_of(side, sentence)), [-2])
        self.assertEqual(ask(bead_of(0, 0), bead_of(1, 0)), [[-2], [-2]])
        self.assertEqual(last(texts(plain(1), []), bead_of(1, 0)), [-2])

    def test_there_is_no_laying_now(self):
        for side, sentence in ((0, 0), (0, 1), (0, 2), (1, 0)):
            with self.subTest(side=side, sentence=sentence):
                self.assertEqual(last(*no_laying(), bead_of(side, sentence)), [-6])

    def test_no_such_text_or_sentence_is_told_ahead_of_no_laying(self):
        for side, sentence in ((0, 3), (1, 1), (2, 0), (HUGE, HUGE)):
            with self.subTest(side=side, sentence=sentence):
                self.assertEqual(last(*no_laying(), bead_of(side, sentence)), [-2])

    def test_changes_nothing(self):
        told = ask(TWO_AND_THREE, fix(1, 1), LAY, SHOWS, bead_of(0, 1), bead_of(2, 0), LAY, SHOWS)
        self.assertEqual(told[6:], told[2:4])

    def test_behind_put(self):
        told = ask(TWO_AND_THREE, put(1, 1, 500), bead_of(1, 1), bead_of(1, 3))
        self.assertEqual(told[2:], [[1, 1, 1, 1, 2], [2, 1, 2, 2, 4]])


if __name__ == "__main__":
    unittest.main()
