"""The share of the first of two kinds, generation by generation, told in whole numbers."""

NOT_STARTED = -11
NOT_AS_TOLD = -22
TOO_FINE = -28
NOT_THERE = -33

MOST_WORTH = 100
THOUSAND = 1000
MOST_PARTS = 1000
MOST_GENERATIONS = 3
MOST_NEAR_PARTS = 100
MOST_EVEN_GENERATIONS = 5
MOST_TIMES = 10
MOST_LOWER = 1000000

START = 0
CHANGE = 1
SHARE = 2
WORTHS = 3
TOLD = 4
MEAN = 5
CHOSEN = 6
CHANGED = 7
AFTER = 8
GO = 9
WAY = 10
WAY_AT = 11
NEAR = 12
EVEN = 13
BURDEN = 14
LOST = 15
RATIO = 17

# How many numbers each call has behind its own, from start to state.
COUNTS = (2, 2, 2, 2, 0, 0, 0, 2, 1, 0, 0, 2, 1, 0, 0, 0, 2, 1, 1, 0)


class Kinds:
    """What the two kinds are worth, how many of thousand change, and the first's share."""

    def __init__(self):
        self.started = False
        self.first = 1
        self.second = 1
        self.away = 0
        self.back = 0
        self.share = (0, 1)


def common_divisor(upper, lower):
    """The greatest whole number that divides both; lower is above 0."""
    while lower != 0:
        rest = upper % lower
        upper = lower
        lower = rest
    return upper


def fraction(upper, lower):
    """Upper by lower, without a common divisor; lower is above 0."""
    divisor = common_divisor(upper, lower)
    return (upper // divisor, lower // divisor)


def are_worths(first, second):
    return first >= 1 and first <= MOST_WORTH and second >= 1 and second <= MOST_WORTH


def is_share(part, parts):
    return parts >= 1 and parts <= MOST_PARTS and part <= parts


def mean_worth(kinds, share):
    """The first's worth times the share, and the second's times what it lacks to 1."""
    together = kinds.first * share[0] + kinds.second * (share[1] - share[0])
    return fraction(together, share[1])


def chosen_share(kinds, share):
    """The first's worth times the share, by the mean: the share's lower number falls out."""
    first = kinds.first * share[0]
    second = kinds.second * (share[1] - share[0])
    return fraction(first, first + second)


def changed_share(kinds, share):
    """What's left of the share, and what changes back of the rest."""
    left = share[0] * (THOUSAND - kinds.away)
    back = (share[1] - share[0]) * kinds.back
    return fraction(left + back, share[1] * THOUSAND)


def next_share(kinds, share):
    return changed_share(kinds, chosen_share(kinds, share))


def share_after(kinds, generations):
    share = kinds.share
    for generation in range(generations):
        share = next_share(kinds, share)
    return share


def even_share_after(kinds, generations):
    """With no choosing: the share changed alone."""
    share = kinds.share
    for generation in range(generations):
        share = changed_share(kinds, share)
    return share


def way_at(kinds, share):
    """1 if the share is more in the next generation, -1 if less, 0 if the same."""
    following = next_share(kinds, share)
    later = following[0] * share[1]
    now = share[0] * following[1]
    if later > now:
        return 1
    if later < now:
        return -1
    return 0


def lead(kinds):
    """How much more the first is worth, times 1,000, when what changes away is taken; above 0 it can hold."""
    return kinds.first * (THOUSAND - kinds.away) - kinds.second * THOUSAND


def has_burden(kinds):
    return kinds.back == 0 and lead(kinds) > 0


def burden_share(kinds):
    """The share at which it rests, where has_burden: there the first is worth more."""
    return fraction(lead(kinds), THOUSAND * (kinds.first - kinds.second))


def with_fraction(pair):
    return [0, pair[0], pair[1]]


def answer_start(kinds, first, second):
    if not are_worths(first, second):
        return [NOT_AS_TOLD]
    kinds.started = True
    kinds.first = first
    kinds.second = second
    kinds.away = 0
    kinds.back = 0
    kinds.share = (0, 1)
    return [0]


def answer_worths(kinds, first, second):
    if not are_worths(first, second):
        return [NOT_AS_TOLD]
    before = [kinds.first, kinds.second]
    kinds.first = first
    kinds.second = second
    return before


def answer_change(kinds, away, back):
    if away + back > THOUSAND:
        return [NOT_AS_TOLD]
    before = [kinds.away, kinds.back]
    kinds.away = away
    kinds.back = back
    return before


def answer_share(kinds, part, parts):
    if not is_share(part, parts):
        return [NOT_AS_TOLD]
    kinds.share = fraction(part, parts)
    return [0]


def answer_changed(kinds, part, parts):
    if not is_share(part, parts):
        return [NOT_AS_TOLD]
    return with_fraction(changed_share(kinds, (part, parts)))


def answer_after(kinds, generations):
    if generations > MOST_GENERATIONS:
        return [NOT_AS_TOLD]
    return with_fraction(share_after(kinds, generations))


def answer_go(kinds):
    if kinds.share[1] > MOST_LOWER:
        return [TOO_FINE]
    kinds.share = next_share(kinds, kinds.share)
    return [0]


def answer_way_at(kinds, part, parts):
    if not is_share(part, parts):
        return [NOT_AS_TOLD]
    return [0, way_at(kinds, (part, parts))]


def answer_near(kinds, parts):
    if parts < 1 or parts > MOST_NEAR_PARTS:
        return [NOT_AS_TOLD]
    # A share of 0 is never less in the next generation, so at 0 parts nothing is asked.
    part = 0
    while part < parts and way_at(kinds, (part + 1, parts)) >= 0:
        part += 1
    return [part]


def answer_even(kinds):
    together = kinds.away + kinds.back
    if together == 0:
        return [NOT_THERE]
    return with_fraction(fraction(kinds.back, together))


def answer_even_after(kinds, generations):
    if generations > MOST_EVEN_GENERATIONS:
        return [NOT_AS_TOLD]
    return with_fraction(even_share_after(kinds, generations))


def answer_soon(kinds, part, parts):
    if not is_share(part, parts):
        return [NOT_AS_TOLD]
    share = kinds.share
    for generations in range(MOST_EVEN_GENERATIONS + 1):
        if share[0] * parts >= part * share[1]:
            return [generations]
        share = changed_share(kinds, share)
    return [NOT_THERE]


def answer_burden(kinds):
    if not has_burden(kinds):
        return [NOT_THERE]
    return with_fraction(burden_share(kinds))


def answer_lost(kinds):
    if not has_burden(kinds):
        return [NOT_THERE]
    mean = mean_worth(kinds, burden_share(kinds))
    best = kinds.first * mean[1]
    return with_fraction(fraction(best - mean[0], best))


def answer_ratio(kinds, times):
    if times > MOST_TIMES:
        return [NOT_AS_TOLD]
    upper = 1
    lower = 1
    for turn in range(times):
        upper *= kinds.first
        lower *= kinds.second
    return with_fraction(fraction(upper, lower))


def answer_with_two(kinds, call, one, other):
    if call == CHANGE:
        return answer_change(kinds, one, other)
    if call == SHARE:
        return answer_share(kinds, one, other)
    if call == WORTHS:
        return answer_worths(kinds, one, other)
    if call == CHANGED:
        return answer_changed(kinds, one, other)
    if call == WAY_AT:
        return answer_way_at(kinds, one, other)
    # Of the calls with two numbers soon alone is left.
    return answer_soon(kinds, one, other)


def answer_with_one(kinds, call, number):
    if call == AFTER:
        return answer_after(kinds, number)
    if call == NEAR:
        return answer_near(kinds, number)
    if call == RATIO:
        return answer_ratio(kinds, number)
    # Of the calls with one number evenAfter alone is left.
    return answer_even_after(kinds, number)


def answer_with_none(kinds, call):
    if call == TOLD:
        return with_fraction(kinds.share)
    if call == MEAN:
        return with_fraction(mean_worth(kinds, kinds.share))
    if call == CHOSEN:
        return with_fraction(chosen_share(kinds, kinds.share))
    if call == GO:
        return answer_go(kinds)
    if call == WAY:
        return [0, way_at(kinds, kinds.share)]
    if call == EVEN:
        return answer_even(kinds)
    if call == BURDEN:
        return answer_burden(kinds)
    if call == LOST:
        return answer_lost(kinds)
    # Of the calls without a number state alone is left.
    return [kinds.first, kinds.second, kinds.away, kinds.back]


def answer_started(kinds, call, numbers):
    if len(numbers) == 2:
        return answer_with_two(kinds, call, numbers[0], numbers[1])
    if len(numbers) == 1:
        return answer_with_one(kinds, call, numbers[0])
    return answer_with_none(kinds, call)


def answer(kinds, call, numbers):
    if call == START:
        return answer_start(kinds, numbers[0], numbers[1])
    if not kinds.started:
        return [NOT_STARTED]
    return answer_started(kinds, call, numbers)


def answers(calls):
    """For each call, in order: how many numbers are answered, then these."""
    kinds = Kinds()
    told = []
    place = 0
    while place < len(calls):
        call = calls[place]
        behind = place + 1 + COUNTS[call]
        numbers = answer(kinds, call, calls[place + 1:behind])
        told.append(len(numbers))
        told.extend(numbers)
        place = behind
    return told
