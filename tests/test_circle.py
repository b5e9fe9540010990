"""Promise 1 of the document, the part of circle."""

import itertools
import unittest

from common import AllAsked, acquaintances_by_rules, acquaintances_of_up_to_five, all_pairs, bits, flat
from guestcircles.groups import circle


def searched(n, pairs):
    """The answer by a plain search: every group of every size, the largest size first."""
    acquainted = {frozenset(pair) for pair in pairs}
    for size in range(n, 0, -1):
        circles = [
            bits(group)
            for group in itertools.combinations(range(n), size)
            if all(frozenset(pair) in acquainted for pair in itertools.combinations(group, 2))
        ]
        if circles:
            return [size, min(circles)]
    raise AssertionError("one guest is always a circle")


class Ordinary(unittest.TestCase):
    def test_two_who_know_one_another(self):
        self.assertEqual(circle(2, [0, 1]), [2, 3])

    def test_two_who_do_not(self):
        self.assertEqual(circle(2, []), [1, 1])

    def test_only_two_of_many(self):
        self.assertEqual(circle(8, [6, 7]), [2, 192])

    def test_three_in_a_row_are_no_circle(self):
        self.assertEqual(circle(3, [0, 1, 1, 2]), [2, 3])

    def test_three_and_a_fourth_who_knows_one_of_them(self):
        self.assertEqual(circle(4, [1, 2, 2, 3, 3, 1, 0, 3]), [3, 14])

    def test_everybody_but_one_pair(self):
        # 0 and 5 don't know one another: without 5 it's 31, without 0 it's 62.
        pairs = [pair for pair in all_pairs(range(6)) if pair != (0, 5)]
        self.assertEqual(circle(6, flat(pairs)), [5, 31])

    def test_a_larger_circle_goes_before_a_lesser_number(self):
        self.assertEqual(circle(6, [0, 1, 3, 4, 4, 5, 5, 3]), [3, 56])

    def test_of_like_ones_the_least_number_wherever_it_is_told(self):
        for pairs in itertools.permutations([(5, 6), (1, 4), (2, 3)]):
            self.assertEqual(circle(7, flat(pairs)), [2, 12], pairs)

    def test_the_least_number_is_not_the_one_with_the_least_guest(self):
        # 0 and 4 are 17, 2 and 3 are 12.
        self.assertEqual(circle(5, [0, 4, 2, 3]), [2, 12])

    def test_a_star(self):
        self.assertEqual(circle(8, flat((7, guest) for guest in range(7))), [2, 129])


class AgainstPlainSearch(unittest.TestCase):
    def test_all_acquaintances_of_up_to_five_guests(self):
        for n, pairs in acquaintances_of_up_to_five():
            self.assertEqual(circle(n, flat(pairs)), searched(n, pairs), (n, pairs))

    def test_acquaintances_by_many_rules_of_six_to_eight_guests(self):
        for n, pairs in acquaintances_by_rules():
            self.assertEqual(circle(n, flat(pairs)), searched(n, pairs), (n, pairs))


class Corners(unittest.TestCase):
    def test_one_guest(self):
        self.assertEqual(circle(1, []), [1, 1])

    def test_a_ring_of_five(self):
        self.assertEqual(circle(5, [0, 1, 1, 2, 2, 3, 3, 4, 4, 0]), [2, 3])

    def test_a_ring_of_five_in_another_order(self):
        # 0 2 4 1 3 and back to 0: of the five pairs 0 and 2 are the least number.
        self.assertEqual(circle(5, [0, 2, 2, 4, 4, 1, 1, 3, 3, 0]), [2, 5])

    def test_two_halves_that_know_one_another_wholly(self):
        lower_and_upper = itertools.product(range(4), range(4, 8))
        self.assertEqual(circle(8, flat(lower_and_upper)), [2, 17])
        even_and_odd = itertools.product(range(0, 8, 2), range(1, 8, 2))
        self.assertEqual(circle(8, flat(even_and_odd)), [2, 3])

    def test_two_halves_and_one_pair_more(self):
        pairs = list(itertools.product(range(4), range(4, 8))) + [(2, 3)]
        self.assertEqual(circle(8, flat(pairs)), [3, 28])

    def test_everybody_knows_everybody(self):
        for n in range(1, 9):
            self.assertEqual(circle(n, flat(all_pairs(range(n)))), [n, 2 ** n - 1])

    def test_eight_in_two_circles_of_four(self):
        pairs = all_pairs(range(4)) + all_pairs(range(4, 8))
        self.assertEqual(circle(8, flat(pairs)), [4, 15])
        self.assertEqual(circle(8, flat(pairs[::-1])), [4, 15])

    def test_eight_in_two_circles_of_four_seated_in_turn(self):
        pairs = all_pairs([1, 3, 5, 7]) + all_pairs([0, 2, 4, 6])
        self.assertEqual(circle(8, flat(pairs)), [4, 85])

    def test_no_pairs_at_all(self):
        for n in range(1, 9):
            self.assertEqual(circle(n, []), [1, 1])

    def test_a_pair_told_twice(self):
        self.assertEqual(circle(3, [1, 2, 1, 2]), [2, 6])

    def test_a_pair_told_either_way_round(self):
        self.assertEqual(circle(3, [2, 1]), [2, 6])
        self.assertEqual(circle(3, [1, 2, 2, 1]), [2, 6])
        self.assertEqual(circle(3, [1, 0, 2, 1, 0, 2]), [3, 7])

    def test_28_pairs_are_not_refused(self):
        self.assertEqual(circle(8, flat(all_pairs(range(8)))), [8, 255])
        self.assertEqual(circle(2, [1, 0] * 28), [2, 3])


class Asked(AllAsked, unittest.TestCase):
    asked = staticmethod(circle)


class NotRefused(unittest.TestCase):
    def test_one_and_eight_guests(self):
        self.assertEqual(circle(1, []), [1, 1])
        self.assertEqual(circle(8, [0, 7]), [2, 129])

    def test_the_last_guest(self):
        for n in range(2, 9):
            self.assertEqual(circle(n, [n - 1, 0]), [2, 1 + 2 ** (n - 1)])

    def test_guests_alike_in_neighbouring_pairs(self):
        self.assertEqual(circle(3, [0, 1, 1, 2]), [2, 3])


if __name__ == "__main__":
    unittest.main()
