"""The laying told, held against all layings there are, reckoned here anew from the document."""

import unittest
from collections import Counter

from tests.lines import LAY, ask, cost, costs, fix, last, texts

KINDS = ((1, 1), (1, 2), (2, 1), (2, 2), (1, 0), (0, 1))


def all_layings(many, others):
    """Every laying, in the order of their kinds."""
    if many == 0 and others == 0:
        return [[]]
    found = []
    for one, other in KINDS:
        if one <= many and other <= others:
            found += [[(one, other)] + rest for rest in all_layings(many - one, others - other)]
    return found


def spans(beads):
    i = j = 0
    for one, other in beads:
        yield range(i, i + one), range(j, j + other)
        i += one
        j += other


def keeps(beads, pair):
    return any(pair[0] in ones and pair[1] in others for ones, others in spans(beads))


def price(beads, first, second, kinds, share, weight, anchor):
    much = 0
    for ones, others in spans(beads):
        much += kinds[KINDS.index((len(ones), len(others)))]
        here = Counter(name for i in ones for name in first[i][1:])
        there = Counter(name for j in others for name in second[j][1:])
        much += anchor * ((here - there).total() + (there - here).total())
        if len(ones) > 0 and len(others) > 0:
            long = sum(first[i][0] for i in ones) * share
            broad = sum(second[j][0] for j in others) * 100
            much += weight * ((max(long, broad) - min(long, broad)) // 100)
    return much


class Numbers:
    """Numbers that look mixed and are the same each time."""

    def __init__(self, seed):
        self.state = seed * 7919 + 1

    def below(self, bound):
        self.state = (self.state * 1103515245 + 12345) % 2147483648
        return self.state // 65536 % bound

    def sentences(self, most, length):
        return [
            (self.below(length), *[self.below(3) for _ in range(self.below(4))])
            for _ in range(self.below(most + 1))
        ]


class AllLayings(unittest.TestCase):
    def check(self, seed):
        numbers = Numbers(seed)
        length = (2, 10, 60)[seed % 3]
        first = numbers.sentences(5, length)
        second = numbers.sentences(5, length)
        priced = ([numbers.below(1 + 4 * (seed % 4)) for _ in range(6)],
                  50 + numbers.below(101), numbers.below(3), numbers.below(4))
        layings = all_layings(len(first), len(second))
        calls = [costs(*priced), texts(first, second)]
        for _ in range(4):
            # Of several that cost as little, min keeps the one that comes first.
            best = min(layings, key=lambda beads: price(beads, first, second, *priced))
            much = price(best, first, second, *priced)
            beads = [number for bead in best for number in bead]
            self.assertEqual(last(*calls, LAY), [much, len(best)] + beads)
            self.assertEqual(last(*calls, cost(*best)), [much])
            if not first or not second:
                return
            pair = (numbers.below(len(first)), numbers.below(len(second)))
            if fix(*pair) in calls:
                self.assertEqual(last(*calls, fix(*pair)), [-4])
                continue
            kept = [beads for beads in layings if keeps(beads, pair)]
            told = ask(*calls, fix(*pair), LAY)
            if not kept:
                self.assertEqual(told[-2], [-6])
                continue
            dearer = min(price(beads, first, second, *priced) for beads in kept)
            self.assertEqual(told[-2], [dearer])
            self.assertGreaterEqual(dearer, much)
            self.refused_where_not_kept(calls + [fix(*pair)], layings, kept)
            layings = kept
            calls.append(fix(*pair))

    def refused_where_not_kept(self, calls, layings, kept):
        for beads in layings[:20]:
            self.assertEqual(last(*calls, cost(*beads)) == [-4], beads not in kept)

    def test_small_texts(self):
        for seed in range(240):
            with self.subTest(seed=seed):
                self.check(seed)


if __name__ == "__main__":
    unittest.main()
