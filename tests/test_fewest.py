"""Promise 2 of the document: fewest."""

import inspect
import itertools
import unittest

from common import (
    AllAsked, REFUSED, acquaintances_by_rules, acquaintances_of_up_to_five, all_pairs, bits, each_once, flat,
    not_told, unacquainted,
)
from guestcircles.groups import circle, fewest, threes

FEWER_GUESTS = [-33]
RING = [0, 1, 1, 2, 2, 3, 3, 4, 4, 0]
ABOVE_EIGHT = (9, 10, 255, 256, 4294967295)


def searched(n, k, pairs):
    """The answer by a plain search through every group of k."""
    told = each_once(pairs)
    return list(min((unacquainted(group, told), bits(group)) for group in itertools.combinations(range(n), k)))


class AnswersOfEachK(unittest.TestCase):
    """Answers worked out by hand, for k of 0, of 1 and so on up to n."""

    def compare(self, n, pairs, expected):
        self.assertEqual(len(expected), n + 1)
        for k, answer in enumerate(expected):
            self.assertEqual(fewest(n, k, pairs), answer, (n, k, pairs))


class Ordinary(AnswersOfEachK):
    def test_two_guests(self):
        self.compare(2, [0, 1], [[0, 0], [0, 1], [0, 3]])
        self.compare(2, [], [[0, 0], [0, 1], [1, 3]])

    def test_three_in_a_row(self):
        self.compare(3, [0, 1, 1, 2], [[0, 0], [0, 1], [0, 3], [1, 7]])

    def test_only_the_last_two_of_four(self):
        # Of three, 0 or 1 is with 2 and 3: 13 or 14.
        self.compare(4, [2, 3], [[0, 0], [0, 1], [0, 12], [2, 13], [5, 15]])

    def test_three_and_a_fourth_who_knows_one_of_them(self):
        self.compare(4, [1, 2, 2, 3, 3, 1, 0, 3], [[0, 0], [0, 1], [0, 6], [0, 14], [2, 15]])

    def test_everybody_but_one_pair(self):
        # 1 and 2 don't know one another: without 2 it's 59, without 1 it's 61.
        pairs = flat(not_told(6, [(1, 2)]))
        self.compare(6, pairs, [[0, 0], [0, 1], [0, 3], [0, 11], [0, 27], [0, 59], [1, 63]])

    def test_a_star(self):
        # The one in the middle knows all others, who all lack one another: with 7 and some of the least.
        lacked = [0, 0, 0, 1, 3, 6, 10, 15, 21]
        last = [0, 1, 129, 131, 135, 143, 159, 191, 255]
        self.compare(8, flat((7, guest) for guest in range(7)), [list(pair) for pair in zip(lacked, last)])
        first = [0, 1, 3, 7, 15, 31, 63, 127, 255]
        self.compare(8, flat((0, guest) for guest in range(1, 8)), [list(pair) for pair in zip(lacked, first)])

    def test_lacking_fewer_goes_before_a_lesser_number(self):
        # Of four, 2 to 5 lack but one, 2 and 3; 0 to 3 lack five.
        pairs = [0, 1, 2, 4, 2, 5, 3, 4, 3, 5, 4, 5]
        self.assertEqual(fewest(6, 4, pairs), [1, 60])

    def test_of_like_ones_the_least_number_in_whatever_order_is_told(self):
        for pairs in itertools.permutations([(5, 6), (1, 4), (2, 3)]):
            self.assertEqual(fewest(7, 2, flat(pairs)), [0, 12], pairs)
            # Two pairs of guests lack four of six: 1, 2, 3 and 4 are 30.
            self.assertEqual(fewest(7, 4, flat(pairs)), [4, 30], pairs)

    def test_the_least_number_is_not_the_one_with_the_least_guest(self):
        # 0 and 4 are 17, 2 and 3 are 12.
        self.assertEqual(fewest(5, 2, [0, 4, 2, 3]), [0, 12])


class AgainstPlainSearch(unittest.TestCase):
    def compare(self, n, pairs):
        for k in range(n + 1):
            self.assertEqual(fewest(n, k, flat(pairs)), searched(n, k, pairs), (n, k, pairs))

    def test_all_acquaintances_of_up_to_five_guests(self):
        for n, pairs in acquaintances_of_up_to_five():
            self.compare(n, pairs)

    def test_acquaintances_by_many_rules_of_six_to_eight_guests(self):
        for n, pairs in acquaintances_by_rules():
            self.compare(n, pairs)


class AgainstCircleAndThrees(unittest.TestCase):
    def test_what_lacks_nobody_is_a_circle(self):
        for n, pairs in itertools.chain(acquaintances_of_up_to_five(), acquaintances_by_rules()):
            told = flat(pairs)
            size, group = circle(n, told)
            self.assertEqual(fewest(n, size, told), [0, group], (n, pairs))
            for k in range(size + 1, n + 1):
                self.assertGreater(fewest(n, k, told)[0], 0, (n, k, pairs))

    def test_the_least_three_that_is_a_circle(self):
        for n, pairs in itertools.chain(acquaintances_of_up_to_five(), acquaintances_by_rules()):
            circles, strangers, least = threes(n, flat(pairs))
            if circles > 0:
                self.assertEqual(fewest(n, 3, flat(pairs)), [0, least], (n, pairs))


class Corners(AnswersOfEachK):
    def test_one_guest(self):
        self.compare(1, [], [[0, 0], [0, 1]])

    def test_the_group_of_nobody(self):
        for n in range(1, 9):
            for pairs in ([], flat(all_pairs(range(n))), [n - 1, 0] if n > 1 else []):
                self.assertEqual(fewest(n, 0, pairs), [0, 0], (n, pairs))

    def test_a_group_of_one(self):
        for n in range(1, 9):
            for pairs in ([], flat(all_pairs(range(n))), [n - 1, 1] if n > 2 else []):
                self.assertEqual(fewest(n, 1, pairs), [0, 1], (n, pairs))

    def test_the_group_of_all(self):
        for n in range(1, 9):
            possible = all_pairs(range(n))
            for told in range(len(possible) + 1):
                self.assertEqual(fewest(n, n, flat(possible[:told])), [len(possible) - told, 2 ** n - 1], (n, told))

    def test_a_ring_of_five(self):
        self.compare(5, RING, [[0, 0], [0, 1], [0, 3], [1, 7], [3, 15], [5, 31]])

    def test_a_ring_of_five_in_another_order(self):
        # 0 2 4 1 3 and back to 0: of three in a row 1, 3 and 0 are the least number.
        self.compare(5, [0, 2, 2, 4, 4, 1, 1, 3, 3, 0], [[0, 0], [0, 1], [0, 5], [1, 11], [3, 15], [5, 31]])

    def test_two_halves_that_know_one_another_wholly(self):
        # As evenly of both halves as k allows, and the least of each.
        lower_and_upper = flat(itertools.product(range(4), range(4, 8)))
        self.compare(8, lower_and_upper, [
            [0, 0], [0, 1], [0, 17], [1, 19], [2, 51], [4, 55], [6, 119], [9, 127], [12, 255],
        ])
        even_and_odd = flat(itertools.product(range(0, 8, 2), range(1, 8, 2)))
        self.compare(8, even_and_odd, [
            [0, 0], [0, 1], [0, 3], [1, 7], [2, 15], [4, 31], [6, 63], [9, 127], [12, 255],
        ])

    def test_everybody_knows_everybody(self):
        for n in range(1, 9):
            self.compare(n, flat(all_pairs(range(n))), [[0, 2 ** k - 1] for k in range(n + 1)])

    def test_eight_in_two_circles_of_four(self):
        # One whole circle, and each guest of the other lacks all four of it.
        expected = [[0, 0], [0, 1], [0, 3], [0, 7], [0, 15], [4, 31], [8, 63], [12, 127], [16, 255]]
        pairs = all_pairs(range(4)) + all_pairs(range(4, 8))
        self.compare(8, flat(pairs), expected)
        self.compare(8, flat(pairs[::-1]), expected)

    def test_eight_in_two_circles_of_four_seated_in_turn(self):
        # 0, 2, 4 and 6 are 85; then 1, 3 and 5 come to them.
        pairs = all_pairs([1, 3, 5, 7]) + all_pairs([0, 2, 4, 6])
        self.compare(8, flat(pairs), [
            [0, 0], [0, 1], [0, 5], [0, 21], [0, 85], [4, 87], [8, 95], [12, 127], [16, 255],
        ])

    def test_no_pairs_at_all(self):
        for n in range(1, 9):
            self.compare(n, [], [[k * (k - 1) // 2, 2 ** k - 1] for k in range(n + 1)])

    def test_a_pair_told_twice(self):
        self.compare(3, [1, 2, 1, 2], [[0, 0], [0, 1], [0, 6], [2, 7]])
        self.compare(3, [1, 2] * 28, [[0, 0], [0, 1], [0, 6], [2, 7]])

    def test_a_pair_told_either_way_round(self):
        self.compare(3, [2, 1], [[0, 0], [0, 1], [0, 6], [2, 7]])
        self.compare(3, [1, 2, 2, 1], [[0, 0], [0, 1], [0, 6], [2, 7]])
        self.compare(3, [1, 0, 2, 1, 0, 2], [[0, 0], [0, 1], [0, 3], [0, 7]])


class AskedOfNobody(AllAsked, unittest.TestCase):
    """What circle refuses is refused with -22 whatever k is, so all that goes for each of these k."""

    k = 0

    def asked(self, n, pairs):
        return fewest(n, self.k, pairs)

    def test_the_arguments_are_called_as_told(self):
        self.assertEqual(list(inspect.signature(fewest).parameters), ["n", "k", "pairs"])
        self.assertEqual(fewest(pairs=[2, 1], k=2, n=3), [0, 6])


class AskedOfOne(AskedOfNobody):
    k = 1


class AskedOfThree(AskedOfNobody):
    k = 3


class AskedOfEight(AskedOfNobody):
    k = 8


class AskedOfNine(AskedOfNobody):
    k = 9


class AskedOfTheMost(AskedOfNobody):
    k = 4294967295


class Refused(unittest.TestCase):
    def test_k_above_eight(self):
        for k in ABOVE_EIGHT:
            for n in (0, 1, 2, 3, 4, 5, 6, 7, 8, 9, 10, 256, 4294967295):
                for pairs in ([], [0, 1], [1, 0] * 28, [0], [0, 0], [0, 1] * 30):
                    self.assertEqual(fewest(n, k, pairs), REFUSED, (n, k, pairs))

    def test_fewer_guests_than_k(self):
        for n in range(1, 9):
            for k in range(n + 1, 9):
                for pairs in ([], flat(all_pairs(range(n)))):
                    self.assertEqual(fewest(n, k, pairs), FEWER_GUESTS, (n, k, pairs))
        self.assertEqual(fewest(2, 3, [1, 0] * 28), FEWER_GUESTS)

    def test_of_both_refusals_the_one_told_first(self):
        for n in range(1, 8):
            for k in range(n + 1, 9):
                for pairs in ([0], [0, 0], [0, n], [n, 0], [255, 254], [0, 1] * 29, [0, 1] * 30):
                    self.assertEqual(fewest(n, k, pairs), REFUSED, (n, k, pairs))
            for k in ABOVE_EIGHT:
                self.assertEqual(fewest(n, k, []), REFUSED, (n, k))

    def test_no_guests_are_not_fewer_guests(self):
        for k in range(10):
            self.assertEqual(fewest(0, k, []), REFUSED, k)

    def test_28_pairs_are_not_refused(self):
        self.assertEqual(fewest(8, 8, flat(all_pairs(range(8)))), [0, 255])
        self.assertEqual(fewest(2, 2, [1, 0] * 28), [0, 3])

    def test_the_last_guest_is_not_refused(self):
        for n in range(2, 9):
            self.assertEqual(fewest(n, 2, [n - 1, 0]), [0, 1 + 2 ** (n - 1)])


class OneCallAfterAnother(unittest.TestCase):
    def test_another_k_in_between_changes_nothing(self):
        first = [fewest(5, k, list(RING)) for k in range(10)]
        again = [fewest(5, k, list(RING)) for k in reversed(range(10))]
        self.assertEqual(first, again[::-1])

    def test_one_list_of_pairs_for_each_k(self):
        handed = list(RING)
        for k in range(10):
            fewest(5, k, handed)
            self.assertEqual(handed, RING, k)


if __name__ == "__main__":
    unittest.main()
