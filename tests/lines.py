"""What the tests share: lines are written from calls, and answers are cut into one list a call."""

from sidebysideyard.beads import answers

LAY = [4]
SHOWS = [10]
# The greatest number that is handed in.
HUGE = 4294967295


def costs(kinds=(0, 5, 5, 8, 12, 12), share=100, weight=1, anchor=10):
    return [0, *kinds, share, weight, anchor]


def texts(first, second):
    """The sentences are tuples: the length, then the anchors."""
    row = []
    for sentence in list(first) + list(second):
        row += [sentence[0], len(sentence) - 1, *sentence[1:]]
    return [1, len(first), len(second), len(row), *row]


def plain(*lengths):
    """Sentences of these lengths that have no anchors."""
    return [(length,) for length in lengths]


def fix(i, j):
    return [2, i, j]


def free(i, j):
    return [3, i, j]


def cost(*beads):
    numbers = [number for bead in beads for number in bead]
    return [5, len(numbers), *numbers]


def try_pair(i, j):
    return [6, i, j]


def bead_of(side, sentence):
    return [7, side, sentence]


def put(side, place, length, *anchors):
    return [8, side, place, length, len(anchors), *anchors]


def take(side, sentence):
    return [9, side, sentence]


def laid(much, *beads):
    """How it is laid, as lay answers it."""
    return [much, len(beads)] + [number for bead in beads for number in bead]


def shown(many, others, *fixed):
    """What shows answers; the fixed pairs are tuples."""
    return [many, others, len(fixed)] + [number for one in fixed for number in one]


def no_laying():
    """Calls behind which no laying keeps all fixed pairs: the first text has 3 sentences, the second 1."""
    return texts(plain(1, 1), plain(1)), fix(0, 0), fix(1, 0), put(0, 1, 5)


def ask(*calls):
    """For each call the list of what it answers."""
    given = answers([number for call in calls for number in call])
    cut = []
    at = 0
    while at < len(given):
        cut.append(given[at + 1:at + 1 + given[at]])
        at += 1 + given[at]
    return cut


def last(*calls):
    """What the last of these calls answers."""
    return ask(*calls)[-1]
