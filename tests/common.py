"""What the tests of several functions share: ways to tell acquaintances, and what all functions promise alike."""

import contextlib
import inspect
import io
import itertools

REFUSED = [-22]


def flat(pairs):
    """The pairs as they are handed over: two guests for each, one pair behind another."""
    return [guest for pair in pairs for guest in pair]


def all_pairs(guests):
    return list(itertools.combinations(guests, 2))


def each_once(pairs):
    """The pairs that are told, each once, however often and whichever way round."""
    return {frozenset(pair) for pair in pairs}


def not_told(n, pairs):
    """All pairs of n guests but those that are told, whichever way round."""
    told = each_once(pairs)
    return [pair for pair in all_pairs(range(n)) if frozenset(pair) not in told]


def bits(group):
    return sum(2 ** guest for guest in group)


def acquaintances_of(n):
    """Every choice of the pairs of n guests."""
    possible = all_pairs(range(n))
    for told in range(2 ** len(possible)):
        yield n, [pair for place, pair in enumerate(possible) if told >> place & 1]


def acquaintances_of_up_to_five():
    """Every n of 1 to 5 with every choice of its pairs."""
    for n in range(1, 6):
        yield from acquaintances_of(n)


def acquaintances_by_rules():
    """Pairs of 6 to 8 guests, few to many, by a fixed set of rules."""
    for n, times, plus, parts in itertools.product((6, 7, 8), range(5), range(5), (5, 7, 11)):
        for few in range(1, parts):
            yield n, [
                # The greater guest is told first, so that this way round is searched as well.
                (other, one) for one, other in all_pairs(range(n))
                if (times * one * other + plus * (one + other) + one * one + other * other) % parts < few
            ]


def unacquainted(group, told):
    """How many pairs of the group aren't among those told, each of these once."""
    return sum(frozenset(pair) not in told for pair in all_pairs(group))


class Unchanging(list):
    """A list that fails on any change, also on one that is taken back later."""

    def refuse(self, *args, **kwargs):
        raise AssertionError("what is handed in was changed")

    append = clear = extend = insert = pop = remove = reverse = sort = refuse
    __setitem__ = __delitem__ = __iadd__ = __imul__ = refuse


class AllAsked:
    """What functions of n and pairs promise alike; a test class has the function as `asked`."""

    others = 1
    calls = (
        (1, []),
        (5, [0, 1, 1, 2, 2, 3, 3, 4, 4, 0]),
        (4, [3, 1, 1, 3, 2, 1, 3, 2]),
        (8, [7, 0]),
        (8, flat(itertools.combinations(range(8), 2))),
        (0, [0, 1]),
        (3, [0, 1, 2]),
        (3, [0, 1, 2, 2]),
        (3, [0, 1, 2, 3]),
        (8, [0, 1] * 30),
    )

    def test_too_few_or_too_many_guests_are_refused(self):
        for n in (0, 9, 10, 255, 256, 4294967295):
            for pairs in ([], [0, 1], [0], [0, 0], [0, 1] * 30):
                self.assertEqual(self.asked(n, pairs), REFUSED, (n, pairs))

    def test_an_odd_list_is_refused(self):
        for length in range(1, 61, 2):
            self.assertEqual(self.asked(8, ([0, 1] * 30)[:length]), REFUSED, length)

    def test_more_than_28_pairs_are_refused(self):
        for told in (29, 30):
            self.assertEqual(self.asked(8, [0, 1] * told), REFUSED, told)
        self.assertEqual(self.asked(8, flat(all_pairs(range(8))) + [0, 1]), REFUSED)

    def test_a_guest_that_is_not_there_is_refused(self):
        for n in range(1, 9):
            for absent in (n, n + 1, 255):
                self.assertEqual(self.asked(n, [0, absent]), REFUSED, (n, absent))
                self.assertEqual(self.asked(n, [absent, 0]), REFUSED, (n, absent))
                self.assertEqual(self.asked(n, [absent, absent + 1 if absent < 255 else 0]), REFUSED, (n, absent))

    def test_a_pair_of_one_guest_is_refused(self):
        for n in range(1, 9):
            for guest in range(n):
                self.assertEqual(self.asked(n, [guest, guest]), REFUSED, (n, guest))

    def test_a_wrong_pair_is_refused_wherever_it_stands(self):
        for wrong in ([2, 2], [0, 3], [3, 0], [255, 1], [1, 255]):
            for place in range(28):
                pairs = [0, 1] * place + wrong + [1, 2] * (27 - place)
                self.assertEqual(self.asked(3, pairs), REFUSED, (wrong, place))

    def test_what_is_handed_in_stays_as_it_was(self):
        for n, pairs in self.calls:
            handed = list(pairs)
            self.asked(n, handed)
            self.assertEqual(handed, pairs, n)

    def test_what_is_handed_in_is_not_changed_for_a_while_either(self):
        for n, pairs in self.calls:
            self.assertEqual(self.asked(n, Unchanging(pairs)), self.asked(n, pairs), (n, pairs))

    def test_a_second_call_answers_the_same(self):
        first = [self.asked(n, list(pairs)) for n, pairs in self.calls]
        again = [self.asked(n, list(pairs)) for n, pairs in reversed(self.calls)]
        self.assertEqual(first, again[::-1])

    def test_a_changed_answer_does_not_come_back(self):
        for n, pairs in self.calls:
            answer = self.asked(n, pairs)
            before = list(answer)
            answer.append(7)
            answer[0] = 99
            self.assertEqual(self.asked(n, pairs), before, (n, pairs))

    def test_the_answer_is_a_list_of_whole_numbers(self):
        for n, pairs in self.calls:
            answer = self.asked(n, pairs)
            self.assertIs(type(answer), list, (n, pairs))
            for number in answer:
                self.assertIs(type(number), int, (n, pairs))

    def test_a_refusal_is_its_number_alone(self):
        for n, pairs in self.calls:
            answer = self.asked(n, pairs)
            self.assertEqual(len(answer), 1 if answer[0] < 0 else 1 + self.others, (n, pairs))

    def test_the_arguments_are_called_as_told(self):
        self.assertEqual(list(inspect.signature(self.asked).parameters), ["n", "pairs"])
        self.assertEqual(self.asked(pairs=[2, 1], n=3), self.asked(3, [2, 1]))

    def test_nothing_is_printed(self):
        printed = io.StringIO()
        with contextlib.redirect_stdout(printed), contextlib.redirect_stderr(printed):
            for n, pairs in self.calls:
                self.asked(n, pairs)
        self.assertEqual(printed.getvalue(), "")
