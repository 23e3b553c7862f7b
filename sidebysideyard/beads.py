"""The calls on two texts that are laid side by side, and what they answer."""

from sidebysideyard.layings import Sentence, Yard, bead_keeps, kind_of, sizes_of, spans_of

MOST_SENTENCES = 14
MOST_ANCHORS = 4
MOST_BEADS = 30
MOST_WEIGHT = 99
# The bound of lengths, anchors, costs, share and the anchor's price alike.
MOST = 999

# By a call's number: how many plain numbers it has, and whether a row comes behind them.
PLAIN_NUMBERS = (9, 2, 2, 2, 0, 0, 2, 2, 3, 2, 0)
HAS_ROW = (False, True, False, False, False, True, False, False, True, False, False)


class Unfit(Exception):
    """Answered as -1: a number is beyond its bound, or beads are no laying."""


class NotThere(Exception):
    """Answered as -2: there is no such text or sentence, or the pair is not fixed."""


class AgainstFixed(Exception):
    """Answered as -4: the pair is fixed already, or a laying does not keep a fixed pair."""


class NoRoom(Exception):
    """Answered as -5: the text has as many sentences as it may have."""


class NoLaying(Exception):
    """Answered as -6: no laying keeps all fixed pairs."""


def answers(calls):
    """What each call answers, in order: how many numbers, then these."""
    yard = Yard()
    answered = []
    at = 0
    while at < len(calls):
        number = calls[at]
        row_at = at + 1 + PLAIN_NUMBERS[number]
        plain = calls[at + 1:row_at]
        row = []
        at = row_at
        if HAS_ROW[number]:
            at = row_at + 1 + calls[row_at]
            row = calls[row_at + 1:at]
        numbers = answer_or_refusal(yard, number, plain, row)
        answered.append(len(numbers))
        answered.extend(numbers)
    return answered


def answer_or_refusal(yard, number, plain, row):
    """The numbers that one call answers, a refusal's among them."""
    try:
        return answer(yard, number, plain, row)
    except Unfit:
        return [-1]
    except NotThere:
        return [-2]
    except AgainstFixed:
        return [-4]
    except NoRoom:
        return [-5]
    except NoLaying:
        return [-6]


def answer(yard, number, plain, row):
    """The numbers that one call answers; a refusal is raised."""
    if number == 0:
        return set_costs(yard, plain[:6], plain[6], plain[7], plain[8])
    if number == 1:
        return set_texts(yard, plain[0], plain[1], row)
    if number == 2:
        return fix_pair(yard, plain[0], plain[1])
    if number == 3:
        return free_pair(yard, plain[0], plain[1])
    if number == 4:
        return how_laid(yard)
    if number == 5:
        return cost_of_beads(yard, row)
    if number == 6:
        return try_pair(yard, plain[0], plain[1])
    if number == 7:
        return bead_of(yard, plain[0], plain[1])
    if number == 8:
        return put_sentence(yard, plain[0], plain[1], plain[2], row)
    if number == 9:
        return take_sentence(yard, plain[0], plain[1])
    return shown(yard)


def set_costs(yard, kind_costs, share, weight, anchor_price):
    """The call costs."""
    if max(kind_costs) > MOST or share < 1 or share > MOST:
        raise Unfit()
    if weight > MOST_WEIGHT or anchor_price > MOST:
        raise Unfit()
    yard.kind_costs = kind_costs
    yard.share = share
    yard.weight = weight
    yard.anchor_price = anchor_price
    return [0]


def set_texts(yard, many, others, row):
    """The call texts."""
    if many > MOST_SENTENCES or others > MOST_SENTENCES:
        raise Unfit()
    sentences = read_sentences(row)
    yard.first = sentences[:many]
    yard.second = sentences[many:]
    yard.fixed = []
    return [many, others]


def read_sentences(row):
    """The sentences that a row tells one behind another."""
    sentences = []
    at = 0
    while at < len(row):
        behind = at + 2 + row[at + 1]
        sentences.append(fit_sentence(row[at], row[at + 2:behind]))
        at = behind
    return sentences


def fit_sentence(length, anchors):
    """The sentence of this length with these anchors, if they keep to their bounds."""
    if length > MOST or len(anchors) > MOST_ANCHORS:
        raise Unfit()
    for anchor in anchors:
        if anchor > MOST:
            raise Unfit()
    return Sentence(length, anchors)


def fix_pair(yard, i, j):
    """The call fix."""
    refuse_if_not_there(yard, i, j)
    if (i, j) in yard.fixed:
        raise AgainstFixed()
    fixed = yard.fixed + [(i, j)]
    laying = laying_told(yard, fixed)
    yard.fixed = fixed
    return [laying[0]]


def refuse_if_not_there(yard, i, j):
    """Refuses a pair that lacks its sentence of the first text or of the second."""
    if i >= len(yard.first) or j >= len(yard.second):
        raise NotThere()


def free_pair(yard, i, j):
    """The call free; it is done even if there is no laying then."""
    if (i, j) not in yard.fixed:
        raise NotThere()
    yard.fixed.remove((i, j))
    return [laying_told(yard, yard.fixed)[0]]


def how_laid(yard):
    """The call lay, and what put and take answer."""
    much, kinds = laying_told(yard, yard.fixed)
    return [much, len(kinds)] + sizes_of(kinds)


def laying_told(yard, fixed):
    """What the laying told costs that keeps these pairs, and its kinds."""
    laying = yard.told(fixed)
    if laying is None:
        raise NoLaying()
    return laying


def cost_of_beads(yard, row):
    """The call cost."""
    if len(row) > 2 * MOST_BEADS:
        raise Unfit()
    much = 0
    kept = True
    i = 0
    j = 0
    for at in range(0, len(row), 2):
        kind = kind_of(row[at], row[at + 1])
        if kind is None:
            raise Unfit()
        much = much + yard.bead_cost(kind, i, j)
        kept = kept and bead_keeps(yard.fixed, kind, i, j)
        i = i + row[at]
        j = j + row[at + 1]
    if i != len(yard.first) or j != len(yard.second):
        raise Unfit()
    # That it is a laying at all is told first, so what is fixed is asked of whole layings alone.
    if not kept:
        raise AgainstFixed()
    return [much]


def try_pair(yard, i, j):
    """The call pair; a pair that is fixed already may be asked for, too."""
    refuse_if_not_there(yard, i, j)
    now = laying_told(yard, yard.fixed)[0]
    then = laying_told(yard, yard.fixed + [(i, j)])[0]
    return [then, then - now]


def bead_of(yard, side, sentence):
    """The call bead."""
    if side > 1 or sentence >= len(yard.text_at(side)):
        raise NotThere()
    spans = spans_of(laying_told(yard, yard.fixed)[1])
    which = 0
    # Beads stand one behind another, so the first that ends behind the sentence has it.
    while spans[which][2 * side + 1] <= sentence:
        which = which + 1
    return [which] + spans[which]


def put_sentence(yard, side, place, length, anchors):
    """The call put; it is done even if there is no laying then."""
    sentence = fit_sentence(length, anchors)
    many = len(yard.text_at(side))
    if place > many:
        raise Unfit()
    if many == MOST_SENTENCES:
        raise NoRoom()
    yard.put_in(side, place, sentence)
    return how_laid(yard)


def take_sentence(yard, side, sentence):
    """The call take; it is done even if there is no laying then."""
    if sentence >= len(yard.text_at(side)):
        raise NotThere()
    yard.take_out(side, sentence)
    return how_laid(yard)


def shown(yard):
    """The call shows."""
    numbers = [len(yard.first), len(yard.second), len(yard.fixed)]
    for pair in yard.fixed:
        numbers.extend(pair)
    return numbers
