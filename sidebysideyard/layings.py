"""The kinds of beads, what beads cost, and which laying of two texts is told."""

# Of layings that cost as little, the one whose kinds come first in this order is told.
KINDS = ((1, 1), (1, 2), (2, 1), (2, 2), (1, 0), (0, 1))


class Sentence:
    """How long a sentence is, and the anchors in it."""

    def __init__(self, length, anchors):
        self.length = length
        self.anchors = anchors


class Yard:
    """Two texts, what their beads cost, and the pairs that are fixed."""

    def __init__(self):
        self.kind_costs = [0, 5, 5, 8, 12, 12]
        self.share = 100
        self.weight = 1
        self.anchor_price = 10
        self.first = []
        self.second = []
        # Pairs of a sentence of the first text and one of the second, in the order in which they were fixed.
        self.fixed = []

    def text_at(self, side):
        """The first text at side 0, the second at side 1."""
        if side == 0:
            return self.first
        return self.second

    def put_in(self, side, place, sentence):
        """Puts a sentence in, with so many ahead of it; fixed pairs go along with their sentences."""
        self.text_at(side).insert(place, sentence)
        self.fixed = [moved(pair, side, place, 1) for pair in self.fixed]

    def take_out(self, side, place):
        """Takes out the sentence that has so many ahead of it, and its fixed pairs; the others go along."""
        self.text_at(side).pop(place)
        others = [pair for pair in self.fixed if pair[side] != place]
        self.fixed = [moved(pair, side, place, -1) for pair in others]

    def bead_cost(self, kind, i, j):
        """What a bead of this kind costs that begins at sentence i of the first text, j of the second."""
        ones = self.first[i:i + KINDS[kind][0]]
        others = self.second[j:j + KINDS[kind][1]]
        much = self.kind_costs[kind] + self.anchor_price * lacking_anchors(ones, others)
        if ones and others:
            much = much + self.weight * lengths_apart(self.share, ones, others)
        return much

    def told(self, fixed):
        """The laying told that keeps these pairs: what it costs, and its kinds; None if no laying keeps them."""
        rests = {(len(self.first), len(self.second)): (0, [])}
        for i in range(len(self.first), -1, -1):
            for j in range(len(self.second), -1, -1):
                # At the end of both texts no bead fits, so the empty rest stays there.
                rest = self.best_rest(fixed, rests, i, j)
                if rest is not None:
                    rests[(i, j)] = rest
        return rests.get((0, 0))

    def best_rest(self, fixed, rests, i, j):
        """The best way on from i and j to the end, by the best ways on from behind each bead; None if there is none."""
        best = None
        for kind, size in enumerate(KINDS):
            rest = rests.get((i + size[0], j + size[1]))
            if rest is None or not bead_keeps(fixed, kind, i, j):
                continue
            much = self.bead_cost(kind, i, j) + rest[0]
            # Only less will do: of ways that cost as little, the kind ahead stays.
            if best is None or much < best[0]:
                best = (much, [kind] + rest[1])
        return best


def lacking_anchors(ones, others):
    """How many anchors either side has that the other lacks, each as often as it is lacking."""
    surplus = {}
    for sentence in ones:
        for anchor in sentence.anchors:
            surplus[anchor] = surplus.get(anchor, 0) + 1
    for sentence in others:
        for anchor in sentence.anchors:
            surplus[anchor] = surplus.get(anchor, 0) - 1
    return sum([abs(times) for times in surplus.values()])


def lengths_apart(share, ones, others):
    """How far the sides' lengths are from what share lets expect, in whole lengths."""
    expected = share * sum([sentence.length for sentence in ones])
    found = 100 * sum([sentence.length for sentence in others])
    return abs(expected - found) // 100


def bead_keeps(fixed, kind, i, j):
    """Whether a bead parts none of these pairs: it has both sentences of a pair or neither."""
    for one, other in fixed:
        has_one = i <= one < i + KINDS[kind][0]
        has_other = j <= other < j + KINDS[kind][1]
        if has_one != has_other:
            return False
    return True


def moved(pair, side, place, steps):
    """The pair, its sentence of this side so many steps on if it stands at the place or behind it."""
    if pair[side] < place:
        return pair
    if side == 0:
        return (pair[0] + steps, pair[1])
    return (pair[0], pair[1] + steps)


def kind_of(many, others):
    """The kind that puts so many sentences with so many others; None if no kind does."""
    for kind, size in enumerate(KINDS):
        if size == (many, others):
            return kind
    return None


def sizes_of(kinds):
    """How many sentences of each text every bead has, one number behind another."""
    sizes = []
    for kind in kinds:
        sizes.append(KINDS[kind][0])
        sizes.append(KINDS[kind][1])
    return sizes


def spans_of(kinds):
    """Of every bead: from, to (the first one behind it) of the first text, likewise of the second."""
    spans = []
    i = 0
    j = 0
    for kind in kinds:
        behind_i = i + KINDS[kind][0]
        behind_j = j + KINDS[kind][1]
        spans.append([i, behind_i, j, behind_j])
        i = behind_i
        j = behind_j
    return spans
