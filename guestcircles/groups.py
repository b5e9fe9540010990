"""Groups among guests, each group told as bits: bit 0 for guest 0."""

NOT_AS_TOLD = -22
FEWER_GUESTS = -33
MOST_GUESTS = 8
MOST_PAIRS = 28


def circle(n, pairs):
    """How many the largest circle has, then it, of like ones the least number; or -22 alone."""
    if not is_as_told(n, pairs):
        return [NOT_AS_TOLD]
    group = largest_circle(known_by_each(n, pairs))
    return [how_many(group), group]


def strange(n, pairs):
    """How many the largest group of strangers has, then it, of like ones the least number; or -22 alone."""
    if not is_as_told(n, pairs):
        return [NOT_AS_TOLD]
    # Strangers would be a circle if just those knew one another who now don't.
    group = largest_circle(unknown_to_each(known_by_each(n, pairs)))
    return [how_many(group), group]


def threes(n, pairs):
    """How many threes are circles, how many are strangers, and the least circle of three or 0; or -22 alone."""
    if not is_as_told(n, pairs):
        return [NOT_AS_TOLD]
    known = known_by_each(n, pairs)
    circles = circles_of(3, known)
    strangers = circles_of(3, unknown_to_each(known))
    return [len(circles), len(strangers), min(circles, default=0)]


def fewest(n, k, pairs):
    """How many the group of k lacks that lacks fewest, then it, of like ones the least number; or -22 or -33 alone."""
    if not is_as_told(n, pairs) or k > MOST_GUESTS:
        return [NOT_AS_TOLD]
    if k > n:
        return [FEWER_GUESTS]
    unknown = unknown_to_each(known_by_each(n, pairs))
    answers = [[lacked(group, unknown), group] for group in groups_of(k, n)]
    # Lists are compared number by number: where as many are lacked, by the group's.
    return min(answers)


def is_as_told(n, pairs):
    """Whether there are 1 to 8 guests, and each pair is of two different ones of them."""
    if n < 1 or n > MOST_GUESTS:
        return False
    if len(pairs) % 2 == 1 or len(pairs) > 2 * MOST_PAIRS:
        return False
    for one, other in in_twos(pairs):
        if one >= n or other >= n or one == other:
            return False
    return True


def in_twos(pairs):
    """The pairs, two guests each, out of the list that has one pair behind another."""
    return list(zip(pairs[0::2], pairs[1::2]))


def known_by_each(n, pairs):
    """For each guest, as bits, those whom that guest knows."""
    known = [0] * n
    for one, other in in_twos(pairs):
        # A bit set again stays set, so a pair told twice counts once.
        known[one] |= 1 << other
        known[other] |= 1 << one
    return known


def unknown_to_each(known):
    """For each guest, as bits, those others whom that guest doesn't know."""
    everybody = (1 << len(known)) - 1
    unknown = []
    for guest, friends in enumerate(known):
        oneself = 1 << guest
        unknown.append(everybody - oneself - friends)
    return unknown


def largest_circle(known):
    """The largest group in which everybody knows everybody else, of like ones the least number."""
    largest = 0
    for group in range(1, 1 << len(known)):
        # Numbers rise, so only a larger group may take the place of an earlier one.
        if how_many(group) > how_many(largest) and is_circle(group, known):
            largest = group
    return largest


def circles_of(k, known):
    """All groups of k in which everybody knows everybody else, their numbers rising."""
    return [group for group in groups_of(k, len(known)) if is_circle(group, known)]


def groups_of(k, n):
    """All groups of k out of n guests, their numbers rising."""
    return [group for group in range(1 << n) if how_many(group) == k]


def is_circle(group, known):
    """Whether everybody in the group knows everybody else in it."""
    for guest, friends in enumerate(known):
        oneself = 1 << guest
        if group & oneself > 0:
            others = group - oneself
            if others & friends != others:
                return False
    return True


def lacked(group, unknown):
    """How many introductions the group lacks: its pairs who don't know one another."""
    seen_from_each = 0
    for guest, strangers in enumerate(unknown):
        oneself = 1 << guest
        if group & oneself > 0:
            seen_from_each += how_many(group & strangers)
    # Both guests of a pair have seen it.
    return seen_from_each // 2


def how_many(group):
    """How many guests are in the group."""
    found = 0
    while group > 0:
        found += group & 1
        group >>= 1
    return found
