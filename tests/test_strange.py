"""Promise 1 of the document, the part of strange."""

import itertools
import unittest

from common import AllAsked, acquaintances_by_rules, acquaintances_of_up_to_five, all_pairs, bits, flat, not_told
from guestcircles.groups import circle, strange


def searched(n, pairs):
    """The answer by a plain search: every group of every size, the largest size first."""
    for size in range(n, 0, -1):
        strangers = [
            bits(group)
            for group in itertools.combinations(range(n), size)
            if not any(one in group and other in group for one, other in pairs)
        ]
        if strangers:
            return [size, min(strangers)]
    raise AssertionError("one guest is always strangers")


class Ordinary(unittest.TestCase):
    def test_two_who_know_one_another(self):
        self.assertEqual(strange(2, [0, 1]), [1, 1])

    def test_two_who_do_not(self):
        self.assertEqual(strange(2, []), [2, 3])

    def test_only_two_of_many_know_one_another(self):
        # Without 7 it's 127, without 6 it's 191.
        self.assertEqual(strange(8, [6, 7]), [7, 127])

    def test_three_in_a_row(self):
        self.assertEqual(strange(3, [0, 1, 1, 2]), [2, 5])

    def test_three_and_a_fourth_who_knows_one_of_them(self):
        # 0 knows 3 alone: 0 and 1 are 3, 0 and 2 are 5.
        self.assertEqual(strange(4, [1, 2, 2, 3, 3, 1, 0, 3]), [2, 3])

    def test_everybody_but_one_pair(self):
        self.assertEqual(strange(6, flat(not_told(6, [(0, 5)]))), [2, 33])

    def test_two_strangers_of_one_guest_may_know_one_another(self):
        # 0 and 1, 1 and 2 are strangers, but 0 and 2 know one another: no group of three.
        self.assertEqual(strange(3, [0, 2]), [2, 3])

    def test_more_strangers_go_before_a_lesser_number(self):
        # 0 and 1 are strangers, and so are 2, 3 and 4.
        self.assertEqual(strange(5, flat(itertools.product([0, 1], [2, 3, 4]))), [3, 28])

    def test_of_like_ones_the_least_number_in_whatever_order_is_told(self):
        pairs = flat(not_told(7, [(5, 6), (1, 4), (2, 3)]))
        for turned in range(0, len(pairs), 2):
            self.assertEqual(strange(7, pairs[turned:] + pairs[:turned]), [2, 12], turned)

    def test_the_least_number_is_not_the_one_with_the_least_guest(self):
        # 0 and 4 are 17, 2 and 3 are 12.
        self.assertEqual(strange(5, flat(not_told(5, [(0, 4), (2, 3)]))), [2, 12])

    def test_a_star(self):
        self.assertEqual(strange(8, flat((7, guest) for guest in range(7))), [7, 127])
        self.assertEqual(strange(8, flat((0, guest) for guest in range(1, 8))), [7, 254])


class AgainstPlainSearch(unittest.TestCase):
    def test_all_acquaintances_of_up_to_five_guests(self):
        for n, pairs in acquaintances_of_up_to_five():
            self.assertEqual(strange(n, flat(pairs)), searched(n, pairs), (n, pairs))

    def test_acquaintances_by_many_rules_of_six_to_eight_guests(self):
        for n, pairs in acquaintances_by_rules():
            self.assertEqual(strange(n, flat(pairs)), searched(n, pairs), (n, pairs))


class AgainstCircle(unittest.TestCase):
    """Strangers are a circle among those pairs that aren't told: of 8 guests these are 28 at most."""

    def test_all_acquaintances_of_up_to_five_guests(self):
        for n, pairs in acquaintances_of_up_to_five():
            self.assertEqual(strange(n, flat(pairs)), circle(n, flat(not_told(n, pairs))), (n, pairs))

    def test_acquaintances_by_many_rules_of_six_to_eight_guests(self):
        for n, pairs in acquaintances_by_rules():
            self.assertEqual(strange(n, flat(pairs)), circle(n, flat(not_told(n, pairs))), (n, pairs))

    def test_pairs_told_twice(self):
        pairs = [(0, 1), (1, 0), (2, 1), (2, 1)]
        for n in range(3, 9):
            self.assertEqual(strange(n, flat(pairs)), circle(n, flat(not_told(n, pairs))), n)


class Corners(unittest.TestCase):
    def test_one_guest(self):
        self.assertEqual(strange(1, []), [1, 1])

    def test_a_ring_of_five(self):
        self.assertEqual(strange(5, [0, 1, 1, 2, 2, 3, 3, 4, 4, 0]), [2, 5])

    def test_a_ring_of_five_in_another_order(self):
        # 0 2 4 1 3 and back to 0: the neighbours in number are strangers, 0 and 1 the least of them.
        self.assertEqual(strange(5, [0, 2, 2, 4, 4, 1, 1, 3, 3, 0]), [2, 3])

    def test_two_halves_that_know_one_another_wholly(self):
        lower_and_upper = itertools.product(range(4), range(4, 8))
        self.assertEqual(strange(8, flat(lower_and_upper)), [4, 15])
        even_and_odd = itertools.product(range(0, 8, 2), range(1, 8, 2))
        self.assertEqual(strange(8, flat(even_and_odd)), [4, 85])

    def test_two_parts_of_three_and_five_that_know_one_another_wholly(self):
        self.assertEqual(strange(8, flat(itertools.product(range(3), range(3, 8)))), [5, 248])

    def test_two_halves_and_one_pair_more(self):
        pairs = list(itertools.product(range(4), range(4, 8))) + [(2, 3)]
        self.assertEqual(strange(8, flat(pairs)), [4, 240])

    def test_everybody_knows_everybody(self):
        for n in range(1, 9):
            self.assertEqual(strange(n, flat(all_pairs(range(n)))), [1, 1])

    def test_eight_in_two_circles_of_four(self):
        pairs = all_pairs(range(4)) + all_pairs(range(4, 8))
        self.assertEqual(strange(8, flat(pairs)), [2, 17])
        self.assertEqual(strange(8, flat(pairs[::-1])), [2, 17])

    def test_eight_in_two_circles_of_four_seated_in_turn(self):
        pairs = all_pairs([1, 3, 5, 7]) + all_pairs([0, 2, 4, 6])
        self.assertEqual(strange(8, flat(pairs)), [2, 3])

    def test_no_pairs_at_all(self):
        for n in range(1, 9):
            self.assertEqual(strange(n, []), [n, 2 ** n - 1])

    def test_a_pair_told_twice(self):
        self.assertEqual(strange(3, [0, 1, 0, 1]), [2, 5])
        self.assertEqual(strange(3, [0, 1, 0, 1, 0, 1]), [2, 5])

    def test_a_pair_told_either_way_round(self):
        self.assertEqual(strange(3, [1, 0]), [2, 5])
        self.assertEqual(strange(3, [0, 1, 1, 0]), [2, 5])
        self.assertEqual(strange(3, [1, 0, 2, 1, 0, 2]), [1, 1])


class Asked(AllAsked, unittest.TestCase):
    asked = staticmethod(strange)


class NotRefused(unittest.TestCase):
    def test_one_and_eight_guests(self):
        self.assertEqual(strange(1, []), [1, 1])
        self.assertEqual(strange(8, [0, 7]), [7, 127])

    def test_28_pairs(self):
        self.assertEqual(strange(8, flat(all_pairs(range(8)))), [1, 1])
        self.assertEqual(strange(3, [1, 0] * 28), [2, 5])

    def test_the_last_guest(self):
        # Without the last it's less than without guest 0.
        for n in range(2, 9):
            self.assertEqual(strange(n, [n - 1, 0]), [n - 1, 2 ** (n - 1) - 1])

    def test_guests_alike_in_neighbouring_pairs(self):
        self.assertEqual(strange(3, [0, 1, 1, 2]), [2, 5])


if __name__ == "__main__":
    unittest.main()
