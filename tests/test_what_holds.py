"""Promise 3 of the document: what holds over circle, strange, threes and fewest together."""

import itertools
import unittest

from common import (
    acquaintances_by_rules, acquaintances_of, acquaintances_of_up_to_five, all_pairs, bits, each_once, flat,
    unacquainted,
)
from guestcircles.groups import circle, fewest, strange, threes

# All of 1 to 8 divide it, so that a guest's share of it is a whole number.
WHOLE = 840


def corners():
    for n in range(1, 9):
        yield n, []
        yield n, all_pairs(range(n))
    yield 5, [(0, 1), (1, 2), (2, 3), (3, 4), (4, 0)]
    yield 5, [(0, 2), (2, 4), (4, 1), (1, 3), (3, 0)]
    for lower in range(1, 8):
        yield 8, list(itertools.product(range(lower), range(lower, 8)))
    yield 8, list(itertools.product(range(0, 8, 2), range(1, 8, 2)))
    yield 6, list(itertools.product(range(3), range(3, 6)))
    yield 8, all_pairs(range(4)) + all_pairs(range(4, 8))
    yield 8, all_pairs([0, 2, 4, 6]) + all_pairs([1, 3, 5, 7])


def told_again():
    """Some pairs told twice or more, and either way round."""
    for n, pairs in itertools.chain(corners(), acquaintances_of(4)):
        if len(pairs) <= 14:
            yield n, pairs + [(other, one) for one, other in pairs]
        if pairs:
            yield n, pairs + pairs[:1] * (28 - len(pairs))


def searched():
    """Ordinary inputs and corners: few enough to go through all groups of each."""
    return itertools.chain(acquaintances_of_up_to_five(), acquaintances_by_rules(), corners(), told_again())


def groups_of(k, n):
    return itertools.combinations(range(n), k)


def members(group):
    return [guest for guest in range(8) if group >> guest & 1]


def acquainted(group, told):
    return len(all_pairs(group)) - unacquainted(group, told)


class NoneLarger(unittest.TestCase):
    def test_no_circle_is_larger(self):
        for n, pairs in searched():
            told = each_once(pairs)
            size, group = circle(n, flat(pairs))
            self.assertEqual(len(members(group)), size, (n, pairs))
            self.assertEqual(unacquainted(members(group), told), 0, (n, pairs))
            # A larger circle would hold one of just one guest more.
            for larger in groups_of(size + 1, n):
                self.assertGreater(unacquainted(larger, told), 0, (n, pairs, larger))

    def test_no_strangers_are_larger(self):
        for n, pairs in searched():
            told = each_once(pairs)
            size, group = strange(n, flat(pairs))
            self.assertEqual(len(members(group)), size, (n, pairs))
            self.assertEqual(acquainted(members(group), told), 0, (n, pairs))
            # More strangers would hold just one guest more.
            for larger in groups_of(size + 1, n):
                self.assertGreater(acquainted(larger, told), 0, (n, pairs, larger))


class HowLargeTheyMustBe(unittest.TestCase):
    def test_twice_the_pairs_times_the_circle(self):
        for n, pairs in searched():
            size = circle(n, flat(pairs))[0]
            self.assertLessEqual(2 * len(each_once(pairs)) * size, n * n * (size - 1), (n, pairs))

    def test_twice_the_pairs_times_the_circle_is_reached(self):
        # Equal parts that know one another wholly leave nothing to spare.
        halves = list(itertools.product(range(4), range(4, 8)))
        quarters = [(one, other) for one, other in all_pairs(range(8)) if one % 4 != other % 4]
        for n, pairs in ((1, []), (8, halves), (8, quarters), (8, all_pairs(range(8)))):
            size = circle(n, flat(pairs))[0]
            self.assertEqual(2 * len(pairs) * size, n * n * (size - 1), (n, pairs))

    def test_strangers_are_as_many_as_all_shares(self):
        for n, pairs in searched():
            told = each_once(pairs)
            shares = 0
            for guest in range(n):
                known = sum(guest in pair for pair in told)
                shares += WHOLE // (known + 1)
            self.assertGreaterEqual(WHOLE * strange(n, flat(pairs))[0], shares, (n, pairs))

    def test_strangers_are_no_more_than_all_shares_in_circles_apart(self):
        # Each circle apart makes up one whole of its members' shares.
        for sizes in ((8,), (4, 4), (1, 2, 5), (2, 2, 2, 2), (3, 3), (1, 1, 1), (1,)):
            pairs = []
            n = 0
            for size in sizes:
                pairs += all_pairs(range(n, n + size))
                n += size
            self.assertEqual(strange(n, flat(pairs))[0], len(sizes), sizes)


class SixGuests(unittest.TestCase):
    def three_of_a_kind(self, n, pairs):
        told = flat(pairs)
        circles, strangers = threes(n, told)[:2]
        self.assertGreaterEqual(circles + strangers, 1, (n, pairs))
        self.assertGreaterEqual(max(circle(n, told)[0], strange(n, told)[0]), 3, (n, pairs))

    def test_all_acquaintances_of_six_guests(self):
        for n, pairs in acquaintances_of(6):
            self.three_of_a_kind(n, pairs)

    def test_six_guests_or_more(self):
        for n, pairs in searched():
            if n >= 6:
                self.three_of_a_kind(n, pairs)

    def test_any_six_of_the_guests(self):
        for n, pairs in corners():
            for six in groups_of(6, n):
                among = [(six.index(one), six.index(other)) for one, other in pairs if one in six and other in six]
                self.three_of_a_kind(6, among)

    def test_five_guests_need_not(self):
        ring = [0, 1, 1, 2, 2, 3, 3, 4, 4, 0]
        self.assertEqual([circle(5, ring)[0], strange(5, ring)[0], threes(5, ring)], [2, 2, [0, 0, 0]])


class HowManyThrees(unittest.TestCase):
    def test_threes_of_both_kinds(self):
        for n, pairs in itertools.chain(searched(), acquaintances_of(6)):
            circles, strangers = threes(n, flat(pairs))[:2]
            self.assertGreaterEqual(24 * (circles + strangers), n * (n - 1) * (n - 5), (n, pairs))

    def test_more_pairs_than_a_quarter_of_guests_squared(self):
        for n, pairs in itertools.chain(searched(), acquaintances_of(6)):
            if 4 * len(each_once(pairs)) > n * n:
                self.assertGreaterEqual(threes(n, flat(pairs))[0], 1, (n, pairs))
                self.assertGreaterEqual(circle(n, flat(pairs))[0], 3, (n, pairs))

    def test_just_a_quarter_of_guests_squared(self):
        halves = list(itertools.product(range(4), range(4, 8)))
        self.assertEqual(threes(8, flat(halves))[0], 0)
        for more in all_pairs(range(4)):
            self.assertEqual(threes(8, flat(halves + [more]))[0], 4, more)


class Introductions(unittest.TestCase):
    def test_no_group_of_k_needs_fewer(self):
        for n, pairs in searched():
            told = each_once(pairs)
            for k in range(n + 1):
                lacking, group = fewest(n, k, flat(pairs))
                self.assertEqual(len(members(group)), k, (n, k, pairs))
                self.assertEqual(unacquainted(members(group), told), lacking, (n, k, pairs))
                for other in groups_of(k, n):
                    self.assertGreaterEqual(unacquainted(other, told), lacking, (n, k, pairs, bits(other)))

    def test_one_more_needs_no_fewer(self):
        for n, pairs in searched():
            lacking = [fewest(n, k, flat(pairs))[0] for k in range(n + 1)]
            self.assertEqual(lacking, sorted(lacking), (n, pairs))

    def test_just_the_largest_circle_needs_none(self):
        for n, pairs in searched():
            size, group = circle(n, flat(pairs))
            self.assertEqual(fewest(n, size, flat(pairs)), [0, group], (n, pairs))
            if size < n:
                self.assertGreater(fewest(n, size + 1, flat(pairs))[0], 0, (n, pairs))


if __name__ == "__main__":
    unittest.main()
