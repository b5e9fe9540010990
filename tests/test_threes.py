"""Promise 1 of the document, the part of threes."""

import itertools
import unittest

from common import AllAsked, acquaintances_by_rules, acquaintances_of_up_to_five, all_pairs, bits, flat, not_told
from guestcircles.groups import circle, strange, threes


def searched(n, pairs):
    """The answer by a plain search: for each group of three, how many of its three pairs are told."""
    acquainted = {frozenset(pair) for pair in pairs}
    told_pairs = {
        bits(group): sum(frozenset(pair) in acquainted for pair in itertools.combinations(group, 2))
        for group in itertools.combinations(range(n), 3)
    }
    circles = [number for number, told in told_pairs.items() if told == 3]
    strangers = [number for number, told in told_pairs.items() if told == 0]
    return [len(circles), len(strangers), min(circles) if circles else 0]


class Ordinary(unittest.TestCase):
    def test_three_who_know_one_another(self):
        self.assertEqual(threes(3, [0, 1, 1, 2, 2, 0]), [1, 0, 7])

    def test_three_in_a_row_are_neither(self):
        self.assertEqual(threes(3, [0, 1, 1, 2]), [0, 0, 0])

    def test_two_of_three_know_one_another(self):
        self.assertEqual(threes(3, [0, 2]), [0, 0, 0])

    def test_three_and_a_fourth_who_knows_one_of_them(self):
        # Only 1, 2 and 3 are a circle; 0 with any two of them has a pair who know one another.
        self.assertEqual(threes(4, [1, 2, 2, 3, 3, 1, 0, 3]), [1, 0, 14])

    def test_only_two_of_many_know_one_another(self):
        # Of 56 threes, 6 and 7 are in six together.
        self.assertEqual(threes(8, [6, 7]), [0, 50, 0])

    def test_one_circle_of_three_among_six(self):
        # Strangers are 0, 1 and 2, and two of these three with 3, 4 or 5.
        self.assertEqual(threes(6, [3, 4, 4, 5, 5, 3]), [1, 10, 56])

    def test_a_star(self):
        # The seven around are strangers: 35 threes, with or without the least guest among them.
        self.assertEqual(threes(8, flat((7, guest) for guest in range(7))), [0, 35, 0])
        self.assertEqual(threes(8, flat((0, guest) for guest in range(1, 8))), [0, 35, 0])

    def test_everybody_but_one_pair(self):
        # Of 20 threes, 0 and 1 are in four together; without 0 or 1 the least is 0, 2 and 3.
        self.assertEqual(threes(6, flat(not_told(6, [(0, 1)]))), [16, 0, 13])

    def test_a_circle_of_four_has_four_threes(self):
        # Of 1, 2, 3 and 4 the least three is 2 + 4 + 8; 0 knows nobody, so no three are strangers.
        self.assertEqual(threes(5, flat(all_pairs(range(1, 5)))), [4, 0, 14])

    def test_the_least_number_is_not_the_one_with_the_least_guest(self):
        # 0, 1 and 6 are 67, 2, 3 and 4 are 28; strangers: one of 0, 1 and 6, one of 2, 3 and 4, and 5.
        for pairs in itertools.permutations([(0, 1), (1, 6), (6, 0), (2, 3), (3, 4), (4, 2)]):
            self.assertEqual(threes(7, flat(pairs)), [2, 9, 28], pairs)

    def test_the_last_number_is_of_circles_not_of_strangers(self):
        # 0, 1 and 2 are strangers with the number 7, yet 2, 3 and 4 are the circle, 28.
        self.assertEqual(threes(5, [2, 3, 3, 4, 4, 2]), [1, 3, 28])


class AgainstPlainSearch(unittest.TestCase):
    def test_all_acquaintances_of_up_to_five_guests(self):
        for n, pairs in acquaintances_of_up_to_five():
            self.assertEqual(threes(n, flat(pairs)), searched(n, pairs), (n, pairs))

    def test_acquaintances_by_many_rules_of_six_to_eight_guests(self):
        for n, pairs in acquaintances_by_rules():
            self.assertEqual(threes(n, flat(pairs)), searched(n, pairs), (n, pairs))


class AgainstThosePairsThatAreNotTold(unittest.TestCase):
    """Of 8 guests there are 28 pairs, so those that aren't told are never too many."""

    def compare(self, n, pairs):
        circles, strangers = threes(n, flat(pairs))[:2]
        others = threes(n, flat(not_told(n, pairs)))
        self.assertEqual([strangers, circles], others[:2], (n, pairs))

    def test_all_acquaintances_of_up_to_five_guests(self):
        for n, pairs in acquaintances_of_up_to_five():
            self.compare(n, pairs)

    def test_acquaintances_by_many_rules_of_six_to_eight_guests(self):
        for n, pairs in acquaintances_by_rules():
            self.compare(n, pairs)

    def test_pairs_told_twice(self):
        for n in range(3, 9):
            self.compare(n, [(0, 1), (1, 0), (2, 1), (2, 1)])
            self.compare(n, [(0, 1), (1, 0), (2, 1), (2, 0)])


class AgainstCircleAndStrange(unittest.TestCase):
    def test_there_is_a_three_just_where_the_largest_has_three(self):
        for n, pairs in itertools.chain(acquaintances_of_up_to_five(), acquaintances_by_rules()):
            circles, strangers, least = threes(n, flat(pairs))
            self.assertEqual(circles > 0, circle(n, flat(pairs))[0] >= 3, (n, pairs))
            self.assertEqual(strangers > 0, strange(n, flat(pairs))[0] >= 3, (n, pairs))
            self.assertEqual(circles > 0, least > 0, (n, pairs))


class Corners(unittest.TestCase):
    def test_one_guest(self):
        self.assertEqual(threes(1, []), [0, 0, 0])

    def test_two_guests(self):
        self.assertEqual(threes(2, []), [0, 0, 0])
        self.assertEqual(threes(2, [0, 1]), [0, 0, 0])
        self.assertEqual(threes(2, [1, 0] * 28), [0, 0, 0])

    def test_a_ring_of_five(self):
        self.assertEqual(threes(5, [0, 1, 1, 2, 2, 3, 3, 4, 4, 0]), [0, 0, 0])
        self.assertEqual(threes(5, [0, 2, 2, 4, 4, 1, 1, 3, 3, 0]), [0, 0, 0])

    def test_a_ring_of_six(self):
        # Every other one: 0, 2 and 4, or 1, 3 and 5.
        self.assertEqual(threes(6, [0, 1, 1, 2, 2, 3, 3, 4, 4, 5, 5, 0]), [0, 2, 0])

    def test_two_halves_that_know_one_another_wholly(self):
        # Each half of four has four threes of its own.
        lower_and_upper = itertools.product(range(4), range(4, 8))
        self.assertEqual(threes(8, flat(lower_and_upper)), [0, 8, 0])
        even_and_odd = itertools.product(range(0, 8, 2), range(1, 8, 2))
        self.assertEqual(threes(8, flat(even_and_odd)), [0, 8, 0])

    def test_two_halves_and_one_pair_more(self):
        # 2 and 3 are a circle with each of the upper half, and two threes of the lower one are spoilt.
        pairs = list(itertools.product(range(4), range(4, 8))) + [(2, 3)]
        self.assertEqual(threes(8, flat(pairs)), [4, 6, 28])

    def test_everybody_knows_everybody(self):
        for n, circles, least in ((1, 0, 0), (2, 0, 0), (3, 1, 7), (4, 4, 7), (5, 10, 7), (6, 20, 7), (7, 35, 7)):
            self.assertEqual(threes(n, flat(all_pairs(range(n)))), [circles, 0, least])
        self.assertEqual(threes(8, flat(all_pairs(range(8)))), [56, 0, 7])

    def test_eight_in_two_circles_of_four(self):
        pairs = all_pairs(range(4)) + all_pairs(range(4, 8))
        self.assertEqual(threes(8, flat(pairs)), [8, 0, 7])
        self.assertEqual(threes(8, flat(pairs[::-1])), [8, 0, 7])

    def test_eight_in_two_circles_of_four_seated_in_turn(self):
        # 0, 2 and 4 are 21.
        pairs = all_pairs([1, 3, 5, 7]) + all_pairs([0, 2, 4, 6])
        self.assertEqual(threes(8, flat(pairs)), [8, 0, 21])

    def test_no_pairs_at_all(self):
        for n, strangers in ((1, 0), (2, 0), (3, 1), (4, 4), (5, 10), (6, 20), (7, 35), (8, 56)):
            self.assertEqual(threes(n, []), [0, strangers, 0])

    def test_a_pair_told_twice(self):
        self.assertEqual(threes(4, [0, 1, 0, 1]), [0, 2, 0])
        self.assertEqual(threes(3, [0, 1, 0, 1, 0, 1]), [0, 0, 0])
        self.assertEqual(threes(3, [0, 1, 0, 1, 1, 2, 1, 2, 0, 2]), [1, 0, 7])

    def test_a_pair_told_either_way_round(self):
        self.assertEqual(threes(4, [1, 0]), [0, 2, 0])
        self.assertEqual(threes(4, [0, 1, 1, 0]), [0, 2, 0])
        self.assertEqual(threes(3, [1, 0, 2, 1, 0, 2]), [1, 0, 7])
        self.assertEqual(threes(3, [1, 0, 0, 1, 1, 2, 2, 1, 2, 0, 0, 2]), [1, 0, 7])


class Asked(AllAsked, unittest.TestCase):
    asked = staticmethod(threes)
    others = 2


class NotRefused(unittest.TestCase):
    def test_28_pairs(self):
        self.assertEqual(threes(8, flat(all_pairs(range(8)))), [56, 0, 7])
        self.assertEqual(threes(3, [1, 0] * 28), [0, 0, 0])

    def test_the_last_guest(self):
        for n in range(3, 9):
            self.assertEqual(threes(n, [n - 1, 0, 0, 1, 1, n - 1])[::2], [1, 3 + 2 ** (n - 1)])

    def test_guests_alike_in_neighbouring_pairs(self):
        self.assertEqual(threes(4, [0, 1, 1, 2]), [0, 1, 0])


if __name__ == "__main__":
    unittest.main()
