"""The share of the first of two kinds, generation by generation, told in whole numbers."""

NOT_STARTED = -11
NOT_AS_TOLD = -22
TOO_FINE = -28

MOST_WORTH = 100
THOUSAND = 1000
MOST_PARTS = 1000
MOST_GENERATIONS = 3
MOST_LOWER = 1000000

START = 0
CHANGE = 1
SHARE = 2
WORTHS = 3
TOLD = 4
MEAN = 5
CHOSEN = 6
CHANGED = 7
AFTER = 8
GO = 9

# All twenty calls are counted, those not built too: before a start each of them is answered.
COUNTS = (2, 2, 2, 2, 0, 0, 0, 2, 1, 0, 0, 2, 1, 0, 0, 0, 2, 1, 1, 0)


class Kinds:
    """What the two kinds are worth, how many of thousand change, and the first's share."""

    def __init__(self):
        self.started = False
        self.first = 1
        self.second = 1
        self.away = 0
        self.back = 0
        self.share = (0, 1)


def common_divisor(upper, lower):
    """The greatest whole number that divides both; lower is above 0."""
    while lower != 0:
        rest = upper % lower
        upper = lower
        lower = rest
    return upper


def fraction(upper, lower):
    """Upper by lower, without a common divisor; lower is above 0."""
    divisor = common_divisor(upper, lower)
    return (upper // divisor, lower // divisor)


def are_worths(first, second):
    return first >= 1 and first <= MOST_WORTH and second >= 1 and second <= MOST_WORTH


def is_share(part, parts):
    return parts >= 1 and parts <= MOST_PARTS and part <= parts


def mean_worth(kinds, share):
    """The first's worth times the share, and the second's times what it lacks to 1."""
    together = kinds.first * share[0] + kinds.second * (share[1] - share[0])
    return fraction(together, share[1])


def chosen_share(kinds, share):
    """The first's worth times the share, by the mean: the share's lower number falls out."""
    first = kinds.first * share[0]
    second = kinds.second * (share[1] - share[0])
    return fraction(first, first + second)


def changed_share(kinds, share):
    """What's left of the share, and what changes back of the rest."""
    left = share[0] * (THOUSAND - kinds.away)
    back = (share[1] - share[0]) * kinds.back
    return fraction(left + back, share[1] * THOUSAND)


def next_share(kinds, share):
    return changed_share(kinds, chosen_share(kinds, share))


def share_after(kinds, generations):
    share = kinds.share
    for generation in range(generations):
        share = next_share(kinds, share)
    return share


def with_fraction(pair):
    return [0, pair[0], pair[1]]


def answer_start(kinds, first, second):
    if not are_worths(first, second):
        return [NOT_AS_TOLD]
    kinds.started = True
    kinds.first = first
    kinds.second = second
    kinds.away = 0
    kinds.back = 0
    kinds.share = (0, 1)
    return [0]


def answer_worths(kinds, first, second):
    if not are_worths(first, second):
        return [NOT_AS_TOLD]
    before = [kinds.first, kinds.second]
    kinds.first = first
    kinds.second = second
    return before


def answer_change(kinds, away, back):
    if away + back > THOUSAND:
        return [NOT_AS_TOLD]
    before = [kinds.away, kinds.back]
    kinds.away = away
    kinds.back = back
    return before


def answer_share(kinds, part, parts):
    if not is_share(part, parts):
        return [NOT_AS_TOLD]
    kinds.share = fraction(part, parts)
    return [0]


def answer_changed(kinds, part, parts):
    if not is_share(part, parts):
        return [NOT_AS_TOLD]
    return with_fraction(changed_share(kinds, (part, parts)))


def answer_after(kinds, generations):
    if generations > MOST_GENERATIONS:
        return [NOT_AS_TOLD]
    return with_fraction(share_after(kinds, generations))


def answer_go(kinds):
    if kinds.share[1] > MOST_LOWER:
        return [TOO_FINE]
    kinds.share = next_share(kinds, kinds.share)
    return [0]


def answer_started(kinds, call, numbers):
    if call == CHANGE:
        return answer_change(kinds, numbers[0], numbers[1])
    if call == SHARE:
        return answer_share(kinds, numbers[0], numbers[1])
    if call == WORTHS:
        return answer_worths(kinds, numbers[0], numbers[1])
    if call == TOLD:
        return with_fraction(kinds.share)
    if call == MEAN:
        return with_fraction(mean_worth(kinds, kinds.share))
    if call == CHOSEN:
        return with_fraction(chosen_share(kinds, kinds.share))
    if call == CHANGED:
        return answer_changed(kinds, numbers[0], numbers[1])
    if call == AFTER:
        return answer_after(kinds, numbers[0])
    if call == GO:
        return answer_go(kinds)
    raise NotImplementedError(f"call {call} is not built yet")


def answer(kinds, call, numbers):
    if call == START:
        return answer_start(kinds, numbers[0], numbers[1])
    if not kinds.started:
        return [NOT_STARTED]
    return answer_started(kinds, call, numbers)


def answers(calls):
    """For each call, in order: how many numbers are answered, then these."""
    kinds = Kinds()
    told = []
    place = 0
    while place < len(calls):
        call = calls[place]
        behind = place + 1 + COUNTS[call]
        numbers = answer(kinds, call, calls[place + 1:behind])
        told.append(len(numbers))
        told.extend(numbers)
        place = behind
    return told
