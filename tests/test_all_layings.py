"""Lines of all calls, held against all layings there are, reckoned here anew from the document."""

import unittest
from collections import Counter
from functools import lru_cache

from tests import lines
from tests.lines import HUGE, LAY, ask, cost, costs, fix, laid, last, shown, texts

KINDS = ((1, 1), (1, 2), (2, 1), (2, 2), (1, 0), (0, 1))
NAMES = ("costs", "texts", "fix", "free", "lay", "cost", "try_pair", "bead_of", "put", "take", "shows")
MET = {
    "costs": {0, -1},
    "texts": {0, -1},
    "fix": {0, -2, -4, -6},
    "free": {0, -2, -6},
    "lay": {0, -6},
    "cost": {0, -1, -4},
    "try_pair": {0, -2, -6},
    "bead_of": {0, -2, -6},
    "put": {0, -1, -5, -6},
    "take": {0, -2, -6},
    "shows": {0},
}


@lru_cache(None)
def all_layings(many, others):
    """Every laying, in the order of their kinds."""
    if many == 0 and others == 0:
        return ((),)
    found = []
    for one, other in KINDS:
        if one <= many and other <= others:
            found += [((one, other), *rest) for rest in all_layings(many - one, others - other)]
    return tuple(found)


@lru_cache(None)
def spans(beads):
    found = []
    i = j = 0
    for one, other in beads:
        found.append((range(i, i + one), range(j, j + other)))
        i += one
        j += other
    return found


def keeps(beads, pair):
    return any(pair[0] in ones and pair[1] in others for ones, others in spans(beads))


@lru_cache(None)
def bead_price(ones, others, kinds, share, weight, anchor):
    """What a bead of these sentences costs: a sentence is its length and its anchors."""
    much = kinds[KINDS.index((len(ones), len(others)))]
    here = Counter(name for sentence in ones for name in sentence[1:])
    there = Counter(name for sentence in others for name in sentence[1:])
    much += anchor * ((here - there).total() + (there - here).total())
    if ones and others:
        long = sum(sentence[0] for sentence in ones) * share
        broad = sum(sentence[0] for sentence in others) * 100
        much += weight * ((max(long, broad) - min(long, broad)) // 100)
    return much


def price(beads, first, second, priced):
    much = 0
    for ones, others in spans(beads):
        much += bead_price(tuple(first[i] for i in ones), tuple(second[j] for j in others), *priced)
    return much


class Sentence:
    """Like no other sentence, however equal: so a fixed pair needs no numbers that move."""

    def __init__(self, row):
        self.row = tuple(row)


class Reckoning:
    """What each call answers, by trying all layings."""

    def __init__(self):
        self.priced = ((0, 5, 5, 8, 12, 12), 100, 1, 10)
        self.sides = ([], [])
        self.fixed = []

    def sizes(self):
        return [len(self.sides[0]), len(self.sides[1])]

    def numbers(self, fixed):
        return [(self.sides[0].index(one), self.sides[1].index(other)) for one, other in fixed]

    def price(self, beads):
        first, second = ([sentence.row for sentence in side] for side in self.sides)
        return price(beads, first, second, self.priced)

    def best(self, fixed):
        pairs = self.numbers(fixed)
        kept = [beads for beads in all_layings(*self.sizes()) if all(keeps(beads, pair) for pair in pairs)]
        # Of several that cost as little, min keeps the one that comes first.
        return min(kept, key=self.price, default=None)

    def there(self, i, j):
        return i < len(self.sides[0]) and j < len(self.sides[1])

    def pair_at(self, i, j):
        return self.sides[0][i], self.sides[1][j]

    def costs(self, kinds, share, weight, anchor):
        if max(kinds) > 999 or share not in range(1, 1000) or weight > 99 or anchor > 999:
            return [-1]
        self.priced = (tuple(kinds), share, weight, anchor)
        return [0]

    def texts(self, first, second):
        fit = all(max(row) <= 999 and len(row) <= 5 for row in [*first, *second])
        if not fit or len(first) > 14 or len(second) > 14:
            return [-1]
        self.sides = ([Sentence(row) for row in first], [Sentence(row) for row in second])
        self.fixed = []
        return self.sizes()

    def fix(self, i, j):
        if not self.there(i, j):
            return [-2]
        pair = self.pair_at(i, j)
        if pair in self.fixed:
            return [-4]
        best = self.best(self.fixed + [pair])
        if best is None:
            return [-6]
        self.fixed.append(pair)
        return [self.price(best)]

    def free(self, i, j):
        if (i, j) not in self.numbers(self.fixed):
            return [-2]
        self.fixed.remove(self.pair_at(i, j))
        return self.lay()[:1]

    def lay(self):
        best = self.best(self.fixed)
        return [-6] if best is None else laid(self.price(best), *best)

    def cost(self, *beads):
        if beads not in all_layings(*self.sizes()):
            return [-1]
        if not all(keeps(beads, pair) for pair in self.numbers(self.fixed)):
            return [-4]
        return [self.price(beads)]

    def try_pair(self, i, j):
        if not self.there(i, j):
            return [-2]
        now = self.best(self.fixed)
        then = self.best(self.fixed + [self.pair_at(i, j)])
        if now is None or then is None:
            return [-6]
        return [self.price(then), self.price(then) - self.price(now)]

    def bead_of(self, side, sentence):
        if side > 1 or sentence >= len(self.sides[side]):
            return [-2]
        best = self.best(self.fixed)
        if best is None:
            return [-6]
        for which, both in enumerate(spans(best)):
            if sentence in both[side]:
                return [which, both[0].start, both[0].stop, both[1].start, both[1].stop]

    def put(self, side, place, *row):
        if max(row) > 999 or len(row) > 5 or place > len(self.sides[side]):
            return [-1]
        if len(self.sides[side]) == 14:
            return [-5]
        self.sides[side].insert(place, Sentence(row))
        return self.lay()

    def take(self, side, sentence):
        if sentence >= len(self.sides[side]):
            return [-2]
        gone = self.sides[side].pop(sentence)
        self.fixed = [pair for pair in self.fixed if pair[side] is not gone]
        return self.lay()

    def shows(self):
        return shown(*self.sizes(), *self.numbers(self.fixed))


class Numbers:
    """Numbers that look mixed and are the same each time."""

    def __init__(self, seed):
        self.state = seed * 7919 + 1

    def below(self, bound):
        self.state = (self.state * 6364136223846793005 + 1442695040888963407) % 2**64
        return self.state // 2**33 % bound

    def one_of(self, things):
        return things[self.below(len(things))]

    def sentence(self, length):
        return (self.below(length), *[self.below(3) for _ in range(self.below(4))])

    def sentences(self, most, length):
        return [self.sentence(length) for _ in range(self.below(most + 1))]


class Mixed:
    """Calls of all kinds, told with an eye on what stands there, so that none of the answers is rare."""

    def __init__(self, seed):
        self.numbers = Numbers(seed)
        self.length = (2, 10, 60)[seed % 3]
        # Texts that are nearly full stand beside all but empty ones: their layings are few enough to be tried.
        self.long = seed % 6 == 5
        self.reckoning = Reckoning()

    def seldom(self, usual, unusual):
        return self.numbers.one_of(unusual) if self.numbers.below(9) == 0 else usual

    def place(self, side, beyond):
        """A sentence of this side; seldom one that is beyond so many behind the end."""
        many = len(self.reckoning.sides[side])
        return self.seldom(self.numbers.below(max(1, many + beyond)), (many + beyond, many + beyond + 1, HUGE))

    def arguments(self, name):
        if name in ("fix", "try_pair"):
            if self.reckoning.fixed and self.numbers.below(4):
                return self.near_by()
            return self.place(0, 0), self.place(1, 0)
        if name == "free" and self.reckoning.fixed:
            return self.seldom(self.numbers.one_of(self.reckoning.numbers(self.reckoning.fixed)), ((0, 1), (HUGE, 0)))
        if name == "free":
            return 0, 0
        if name in ("lay", "shows"):
            return ()
        if name in ("bead_of", "take"):
            side = self.numbers.below(2)
            return self.seldom(side, (2, HUGE)) if name == "bead_of" else side, self.place(side, 0)
        if name == "cost":
            return self.beads()
        return {"costs": self.prices, "texts": self.two_texts, "put": self.new_sentence}[name]()

    def near_by(self):
        """A pair that shares a sentence with one that is fixed, or is that one."""
        pair = list(self.numbers.one_of(self.reckoning.numbers(self.reckoning.fixed)))
        side = self.numbers.below(2)
        pair[side] = max(0, pair[side] + self.numbers.below(3) - 1)
        return tuple(pair)

    def beads(self):
        beads = self.reckoning.best(self.reckoning.fixed) or ()
        usual = self.numbers.one_of((beads, self.numbers.one_of(all_layings(*self.reckoning.sizes()))))
        return self.seldom(usual, (beads + ((0, 0),), beads[1:], beads[::-1] + ((1, 1),), ((2, 2), (0, 2))))

    def prices(self):
        bound = 1 + 4 * self.numbers.below(4)
        kinds = [self.numbers.below(bound) for _ in range(6)]
        kinds[self.numbers.below(6)] = self.seldom(self.numbers.below(bound), (999, 1000, HUGE))
        return (kinds, self.seldom(50 + self.numbers.below(101), (0, 1, 999, 1000)),
                self.seldom(self.numbers.below(3), (99, 100)), self.seldom(self.numbers.below(4), (999, 1000)))

    def few_sentences(self):
        one = self.numbers.sentence(self.length)
        return self.numbers.sentences(2, self.length) + self.seldom([one], [[]])

    def two_texts(self):
        if self.long:
            both = [[(self.numbers.below(self.length),)] * 13, self.numbers.sentences(1, self.length)]
            return both[::-1] if self.numbers.below(2) else both
        first, second = self.few_sentences(), self.few_sentences()
        return self.seldom((first, second), ((first, [(1000,)]), ([(1,)] * 15, second), ([(1, 1, 1, 1, 1, 1)], [])))

    def new_sentence(self):
        side = self.numbers.below(2)
        if self.long:
            sizes = self.reckoning.sizes()
            side = sizes.index(max(sizes))
        place = self.place(side, 1)
        if self.reckoning.fixed and self.numbers.below(4):
            # Ahead of a fixed sentence: between two that want one bead, now and then.
            place = self.numbers.one_of(self.reckoning.numbers(self.reckoning.fixed))[side]
        length, *anchors = self.numbers.sentence(self.length)
        return (side, place, self.seldom(length, (999, 1000)),
                *self.seldom(anchors, ([1000], [1] * 4, [1] * 5)))

    def name(self):
        many, others = self.reckoning.sizes()
        if many * others > 16:
            return "take"
        if many + others < 3 and self.numbers.below(3):
            return "texts"
        if self.reckoning.lay() == [-6]:
            names = NAMES[2:] + ("free",) * len(self.reckoning.fixed)
            return self.seldom(self.numbers.one_of(names), ("texts", "costs"))
        names = NAMES[2:] + ("fix",) * 5 + ("put",) * 3 + ("try_pair", "bead_of", "lay")
        return self.seldom(self.numbers.one_of(names), ("texts", "costs", "costs", "shows", "take"))

    def line(self, many):
        """The calls as they are handed in, and of each its name and what the reckoning answers."""
        calls = []
        told = []
        for _ in range(many):
            name = self.name()
            arguments = self.arguments(name)
            calls.append({"lay": LAY, "shows": lines.SHOWS}.get(name) or getattr(lines, name)(*arguments))
            told.append((name, getattr(self.reckoning, name)(*arguments)))
        return calls, told


class AllLayings(unittest.TestCase):
    def check(self, seed):
        numbers = Numbers(seed)
        length = (2, 10, 60)[seed % 3]
        first = numbers.sentences(5, length)
        second = numbers.sentences(5, length)
        priced = (tuple(numbers.below(1 + 4 * (seed % 4)) for _ in range(6)),
                  50 + numbers.below(101), numbers.below(3), numbers.below(4))
        layings = all_layings(len(first), len(second))
        calls = [costs(*priced), texts(first, second)]
        for _ in range(4):
            best = min(layings, key=lambda beads: price(beads, first, second, priced))
            much = price(best, first, second, priced)
            self.assertEqual(last(*calls, LAY), laid(much, *best))
            self.assertEqual(last(*calls, cost(*best)), [much])
            if not first or not second:
                return
            pair = (numbers.below(len(first)), numbers.below(len(second)))
            if fix(*pair) in calls:
                self.assertEqual(last(*calls, fix(*pair)), [-4])
                continue
            kept = [beads for beads in layings if keeps(beads, pair)]
            told = ask(*calls, fix(*pair), LAY)
            if not kept:
                self.assertEqual(told[-2], [-6])
                continue
            dearer = min(price(beads, first, second, priced) for beads in kept)
            self.assertEqual(told[-2], [dearer])
            self.assertGreaterEqual(dearer, much)
            self.refused_where_not_kept(calls + [fix(*pair)], layings, kept)
            layings = kept
            calls.append(fix(*pair))

    def refused_where_not_kept(self, calls, layings, kept):
        for beads in layings[:20]:
            self.assertEqual(last(*calls, cost(*beads)) == [-4], beads not in kept)

    def test_small_texts(self):
        for seed in range(240):
            with self.subTest(seed=seed):
                self.check(seed)


class MixedLines(unittest.TestCase):
    def test_lines_of_thirty_calls(self):
        met = {name: set() for name in NAMES}
        for seed in range(240):
            with self.subTest(seed=seed):
                calls, told = Mixed(seed).line(30)
                for at, (answered, (name, numbers)) in enumerate(zip(ask(*calls), told, strict=True)):
                    self.assertEqual(answered, numbers, (at, name, calls[:at + 1]))
                    met[name].add(min(0, numbers[0]))
        self.assertEqual(met, MET)

    def test_a_fixed_pair_never_makes_it_cheaper(self):
        for seed in range(240, 300):
            calls, told = Mixed(seed).line(30)
            for answered, (name, _) in zip(ask(*calls), told):
                if name == "try_pair" and len(answered) == 2:
                    self.assertGreaterEqual(answered[1], 0)


if __name__ == "__main__":
    unittest.main()
