"""Promise 1 of the document, the part of circle."""

import itertools
import unittest

from guestcircles.groups import circle

REFUSED = [-22]


def flat(pairs):
    """The pairs as they are handed over: two guests for each, one pair behind another."""
    return [guest for pair in pairs for guest in pair]


def all_pairs(guests):
    return list(itertools.combinations(guests, 2))


def bits(group):
    return sum(2 ** guest for guest in group)


def searched(n, pairs):
    """The answer by a plain search: every group of every size, the largest size first."""
    acquainted = {frozenset(pair) for pair in pairs}
    for size in range(n, 0, -1):
        circles = [
            bits(group)
            for group in itertools.combinations(range(n), size)
            if all(frozenset(pair) in acquainted for pair in itertools.combinations(group, 2))
        ]
        if circles:
            return [size, min(circles)]
    raise AssertionError("one guest is always a circle")


class Unchanging(list):
    """A list that fails on any change, also on one that is taken back later."""

    def refuse(self, *args, **kwargs):
        raise AssertionError("what is handed in was changed")

    append = clear = extend = insert = pop = remove = reverse = sort = refuse
    __setitem__ = __delitem__ = __iadd__ = __imul__ = refuse


class Ordinary(unittest.TestCase):
    def test_two_who_know_one_another(self):
        self.assertEqual(circle(2, [0, 1]), [2, 3])

    def test_two_who_do_not(self):
        self.assertEqual(circle(2, []), [1, 1])

    def test_only_two_of_many(self):
        self.assertEqual(circle(8, [6, 7]), [2, 192])

    def test_three_in_a_row_are_no_circle(self):
        self.assertEqual(circle(3, [0, 1, 1, 2]), [2, 3])

    def test_three_and_a_fourth_who_knows_one_of_them(self):
        self.assertEqual(circle(4, [1, 2, 2, 3, 3, 1, 0, 3]), [3, 14])

    def test_everybody_but_one_pair(self):
        # 0 and 5 don't know one another: without 5 it's 31, without 0 it's 62.
        pairs = [pair for pair in all_pairs(range(6)) if pair != (0, 5)]
        self.assertEqual(circle(6, flat(pairs)), [5, 31])

    def test_a_larger_circle_goes_before_a_lesser_number(self):
        self.assertEqual(circle(6, [0, 1, 3, 4, 4, 5, 5, 3]), [3, 56])

    def test_of_like_ones_the_least_number_wherever_it_is_told(self):
        for pairs in itertools.permutations([(5, 6), (1, 4), (2, 3)]):
            self.assertEqual(circle(7, flat(pairs)), [2, 12], pairs)

    def test_the_least_number_is_not_the_one_with_the_least_guest(self):
        # 0 and 4 are 17, 2 and 3 are 12.
        self.assertEqual(circle(5, [0, 4, 2, 3]), [2, 12])

    def test_a_star(self):
        self.assertEqual(circle(8, flat((7, guest) for guest in range(7))), [2, 129])


class AgainstPlainSearch(unittest.TestCase):
    def test_all_acquaintances_of_up_to_five_guests(self):
        for n in range(1, 6):
            possible = all_pairs(range(n))
            for told in range(2 ** len(possible)):
                pairs = [pair for place, pair in enumerate(possible) if told >> place & 1]
                self.assertEqual(circle(n, flat(pairs)), searched(n, pairs), (n, pairs))

    def test_acquaintances_by_many_rules_of_six_to_eight_guests(self):
        for n, times, plus, parts in itertools.product((6, 7, 8), range(5), range(5), (5, 7, 11)):
            for few in range(1, parts):
                pairs = [
                    # The greater guest is told first, so that this way round is searched as well.
                    (other, one) for one, other in all_pairs(range(n))
                    if (times * one * other + plus * (one + other) + one * one + other * other) % parts < few
                ]
                self.assertEqual(circle(n, flat(pairs)), searched(n, pairs), (n, pairs))


class Corners(unittest.TestCase):
    def test_one_guest(self):
        self.assertEqual(circle(1, []), [1, 1])

    def test_a_ring_of_five(self):
        self.assertEqual(circle(5, [0, 1, 1, 2, 2, 3, 3, 4, 4, 0]), [2, 3])

    def test_a_ring_of_five_in_another_order(self):
        # 0 2 4 1 3 and back to 0: of the five pairs 0 and 2 are the least number.
        self.assertEqual(circle(5, [0, 2, 2, 4, 4, 1, 1, 3, 3, 0]), [2, 5])

    def test_two_halves_that_know_one_another_wholly(self):
        lower_and_upper = itertools.product(range(4), range(4, 8))
        self.assertEqual(circle(8, flat(lower_and_upper)), [2, 17])
        even_and_odd = itertools.product(range(0, 8, 2), range(1, 8, 2))
        self.assertEqual(circle(8, flat(even_and_odd)), [2, 3])

    def test_two_halves_and_one_pair_more(self):
        pairs = list(itertools.product(range(4), range(4, 8))) + [(2, 3)]
        self.assertEqual(circle(8, flat(pairs)), [3, 28])

    def test_everybody_knows_everybody(self):
        for n in range(1, 9):
            self.assertEqual(circle(n, flat(all_pairs(range(n)))), [n, 2 ** n - 1])

    def test_eight_in_two_circles_of_four(self):
        pairs = all_pairs(range(4)) + all_pairs(range(4, 8))
        self.assertEqual(circle(8, flat(pairs)), [4, 15])
        self.assertEqual(circle(8, flat(pairs[::-1])), [4, 15])

    def test_eight_in_two_circles_of_four_seated_in_turn(self):
        pairs = all_pairs([1, 3, 5, 7]) + all_pairs([0, 2, 4, 6])
        self.assertEqual(circle(8, flat(pairs)), [4, 85])

    def test_no_pairs_at_all(self):
        for n in range(1, 9):
            self.assertEqual(circle(n, []), [1, 1])

    def test_a_pair_told_twice(self):
        self.assertEqual(circle(3, [1, 2, 1, 2]), [2, 6])

    def test_a_pair_told_either_way_round(self):
        self.assertEqual(circle(3, [2, 1]), [2, 6])
        self.assertEqual(circle(3, [1, 2, 2, 1]), [2, 6])
        self.assertEqual(circle(3, [1, 0, 2, 1, 0, 2]), [3, 7])

    def test_28_pairs_are_not_refused(self):
        self.assertEqual(circle(8, flat(all_pairs(range(8)))), [8, 255])
        self.assertEqual(circle(2, [1, 0] * 28), [2, 3])


class Refused(unittest.TestCase):
    def test_too_few_or_too_many_guests(self):
        for n in (0, 9, 10, 255, 256, 4294967295):
            for pairs in ([], [0, 1], [0], [0, 0], [0, 1] * 30):
                self.assertEqual(circle(n, pairs), REFUSED, (n, pairs))

    def test_one_and_eight_guests_are_not_too_few_or_too_many(self):
        self.assertEqual(circle(1, []), [1, 1])
        self.assertEqual(circle(8, [0, 7]), [2, 129])

    def test_an_odd_list(self):
        for length in range(1, 61, 2):
            self.assertEqual(circle(8, ([0, 1] * 30)[:length]), REFUSED, length)

    def test_more_than_28_pairs(self):
        for told in (29, 30):
            self.assertEqual(circle(8, [0, 1] * told), REFUSED, told)
        self.assertEqual(circle(8, flat(all_pairs(range(8))) + [0, 1]), REFUSED)

    def test_a_guest_that_is_not_there(self):
        for n in range(1, 9):
            for absent in (n, n + 1, 255):
                self.assertEqual(circle(n, [0, absent]), REFUSED, (n, absent))
                self.assertEqual(circle(n, [absent, 0]), REFUSED, (n, absent))
                self.assertEqual(circle(n, [absent, absent + 1 if absent < 255 else 0]), REFUSED, (n, absent))

    def test_the_last_guest_is_there(self):
        for n in range(2, 9):
            self.assertEqual(circle(n, [n - 1, 0]), [2, 1 + 2 ** (n - 1)])

    def test_a_pair_of_one_guest(self):
        for n in range(1, 9):
            for guest in range(n):
                self.assertEqual(circle(n, [guest, guest]), REFUSED, (n, guest))

    def test_a_wrong_pair_wherever_it_stands(self):
        for wrong in ([2, 2], [0, 3], [3, 0], [255, 1], [1, 255]):
            for place in range(28):
                pairs = [0, 1] * place + wrong + [1, 2] * (27 - place)
                self.assertEqual(circle(3, pairs), REFUSED, (wrong, place))

    def test_guests_alike_in_neighbouring_pairs_are_no_pair_of_one(self):
        self.assertEqual(circle(3, [0, 1, 1, 2]), [2, 3])


class WhatIsHandedIn(unittest.TestCase):
    CALLS = (
        (1, []),
        (5, [0, 1, 1, 2, 2, 3, 3, 4, 4, 0]),
        (4, [3, 1, 1, 3, 2, 1, 3, 2]),
        (8, flat(itertools.combinations(range(8), 2))),
        (0, [0, 1]),
        (3, [0, 1, 2]),
        (3, [0, 1, 2, 2]),
        (3, [0, 1, 2, 3]),
        (8, [0, 1] * 30),
    )

    def test_stays_as_it_was(self):
        for n, pairs in self.CALLS:
            handed = list(pairs)
            circle(n, handed)
            self.assertEqual(handed, pairs, n)

    def test_is_not_changed_for_a_while_either(self):
        for n, pairs in self.CALLS:
            self.assertEqual(circle(n, Unchanging(pairs)), circle(n, pairs), (n, pairs))

    def test_a_second_call_answers_the_same(self):
        first = [circle(n, list(pairs)) for n, pairs in self.CALLS]
        again = [circle(n, list(pairs)) for n, pairs in reversed(self.CALLS)]
        self.assertEqual(first, again[::-1])

    def test_a_changed_answer_does_not_come_back(self):
        for n, pairs in self.CALLS:
            answer = circle(n, pairs)
            before = list(answer)
            answer.append(7)
            answer[0] = 99
            self.assertEqual(circle(n, pairs), before, (n, pairs))


class Kinds(unittest.TestCase):
    def test_a_list_of_whole_numbers(self):
        for n, pairs in WhatIsHandedIn.CALLS:
            answer = circle(n, pairs)
            self.assertIs(type(answer), list, (n, pairs))
            for number in answer:
                self.assertIs(type(number), int, (n, pairs))

    def test_one_number_if_refused_and_else_two(self):
        for n, pairs in WhatIsHandedIn.CALLS:
            answer = circle(n, pairs)
            self.assertEqual(len(answer), 1 if answer[0] < 0 else 2, (n, pairs))


if __name__ == "__main__":
    unittest.main()
