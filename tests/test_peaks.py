import copy
import itertools
import random
import time
import unittest

from headcounts.errors import BadBallots, BadCandidates, CountError, NotPeaked
from headcounts.peaks import middle, peaked
from headcounts.tables import counted
from tests.samples import GREAT, NO_LISTS, Unfriendly, WRONG_BALLOTS, WRONG_CANDIDATES, WRONG_COUNTS, WRONG_ORDERS

BOTH = (peaked, middle)


def peaked_by_the_words(order):
    """However many of the first candidates are taken, these are all from one count to another one."""
    firsts = [order[:many] for many in range(1, len(order) + 1)]
    return all(sorted(first) == list(range(min(first), max(first) + 1)) for first in firsts)


def peaked_orders(candidates):
    return [list(order) for order in itertools.permutations(range(candidates)) if peaked_by_the_words(list(order))]


def order_from(top, candidates, chance):
    """A peaked order with this candidate first."""
    low, high, order = top, top, [top]
    while len(order) < candidates:
        down = low > 0 and (high == candidates - 1 or chance.random() < 0.5)
        low, high = (low - 1, high) if down else (low, high + 1)
        order.append(low if down else high)
    return order


def middle_by_the_words(candidates, ballots):
    everything = [order[0] for order, many in ballots for each in range(many)]
    for who in range(candidates):
        if 2 * len([first for first in everything if first <= who]) >= len(everything):
            return who


class Peaked(unittest.TestCase):

    def test_ordinary_ones(self):
        self.assertIs(peaked(4, [([1, 2, 0, 3], 2), ([3, 2, 1, 0], 1), ([2, 1, 3, 0], 5)]), True)
        self.assertIs(peaked(4, [([1, 3, 2, 0], 1)]), False)
        self.assertIs(peaked(4, [([0, 1, 3, 2], 1)]), False)
        self.assertIs(peaked(3, [([0, 2, 1], 1)]), False)

    def test_one_that_is_not_among_others(self):
        for place in range(4):
            ballots = [([1, 0, 2], 3), ([2, 1, 0], 1), ([0, 1, 2], 9)]
            ballots.insert(place, ([2, 0, 1], 1))
            self.assertIs(peaked(3, ballots), False)

    def test_both_ends_and_between(self):
        self.assertIs(peaked(5, [([0, 1, 2, 3, 4], 1), ([4, 3, 2, 1, 0], 1), ([2, 3, 1, 0, 4], 1)]), True)

    def test_no_ballots(self):
        for candidates in (1, 2, 20):
            self.assertIs(peaked(candidates, []), True)

    def test_one_and_two_candidates(self):
        self.assertIs(peaked(1, [([0], 4)]), True)
        self.assertIs(peaked(2, [([0, 1], 4), ([1, 0], 1)]), True)

    def test_each_order_of_up_to_six_against_the_words(self):
        for candidates in range(1, 7):
            for order in itertools.permutations(range(candidates)):
                self.assertIs(peaked(candidates, [(list(order), 1)]), peaked_by_the_words(list(order)), order)

    def test_twenty_candidates(self):
        for top in range(20):
            order = order_from(top, 20, random.Random(top))
            self.assertIs(peaked(20, [(order, 1)]), True)
            order[17], order[18] = order[18], order[17]
            self.assertIs(peaked(20, [(order, 1)]), peaked_by_the_words(order))
        self.assertIs(peaked(20, [(list(range(18)) + [19, 18], 1)]), False)

    def test_very_great_counts(self):
        self.assertIs(peaked(3, [([1, 0, 2], GREAT), ([2, 1, 0], GREAT)]), True)
        self.assertIs(peaked(3, [([1, 0, 2], GREAT), ([2, 0, 1], 1)]), False)

    def test_one_order_in_several_ballots(self):
        self.assertIs(peaked(3, [([1, 0, 2], 1), ([1, 0, 2], 1)]), True)
        self.assertIs(peaked(3, [([0, 2, 1], 1), ([0, 2, 1], 1)]), False)


class Middle(unittest.TestCase):

    def test_ordinary_ones(self):
        self.assertEqual(middle(3, [([0, 1, 2], 2), ([1, 0, 2], 2), ([2, 1, 0], 1)]), 1)
        self.assertEqual(middle(3, [([0, 1, 2], 1), ([1, 0, 2], 1), ([2, 1, 0], 3)]), 2)

    def test_how_many_there_are_counts(self):
        self.assertEqual(middle(3, [([0, 1, 2], 5), ([1, 0, 2], 1), ([2, 1, 0], 1), ([2, 1, 0], 1)]), 0)

    def test_just_half_of_all_ballots(self):
        self.assertEqual(middle(2, [([0, 1], 3), ([1, 0], 3)]), 0)
        self.assertEqual(middle(2, [([0, 1], 3), ([1, 0], 4)]), 1)
        self.assertEqual(middle(2, [([0, 1], 4), ([1, 0], 3)]), 0)
        self.assertEqual(middle(4, [([1, 0, 2, 3], 2), ([3, 2, 1, 0], 2)]), 1)
        self.assertEqual(middle(4, [([0, 1, 2, 3], 1), ([1, 0, 2, 3], 1), ([3, 2, 1, 0], 2)]), 1)

    def test_just_half_of_very_many(self):
        self.assertEqual(middle(2, [([0, 1], GREAT), ([1, 0], GREAT)]), 0)
        self.assertEqual(middle(2, [([0, 1], GREAT), ([1, 0], GREAT + 1)]), 1)
        self.assertEqual(middle(2, [([0, 1], GREAT + 1), ([1, 0], GREAT)]), 0)
        self.assertEqual(middle(3, [([0, 1, 2], GREAT), ([1, 0, 2], 1), ([2, 1, 0], GREAT + 1)]), 1)

    def test_no_ballots(self):
        # At least half of none have 0 first.
        for candidates in (1, 2, 20):
            self.assertEqual(middle(candidates, []), 0)

    def test_one_candidate(self):
        self.assertEqual(middle(1, [([0], 4), ([0], 1)]), 0)

    def test_one_order_in_several_ballots(self):
        self.assertEqual(middle(3, [([2, 1, 0], 1), ([0, 1, 2], 2), ([2, 1, 0], 1), ([2, 1, 0], 1)]), 2)
        self.assertEqual(middle(3, [([2, 1, 0], 1), ([0, 1, 2], 2), ([2, 1, 0], 1)]), 0)

    def test_one_ballot(self):
        for candidates in range(1, 7):
            for order in peaked_orders(candidates):
                self.assertEqual(middle(candidates, [(order, 3)]), order[0])

    def test_small_ones_against_the_words(self):
        for candidates in (1, 2, 3, 4):
            ballots = [(order, many) for order in peaked_orders(candidates) for many in (1, 2, 3)]
            for several in itertools.product(ballots, repeat=2):
                self.assertEqual(middle(candidates, list(several)), middle_by_the_words(candidates, several))

    def test_greater_ones_against_the_words_and_the_table(self):
        chance = random.Random(9)
        for candidates in range(1, 21):
            for many in (1, 2, 3, 4, 9, 10):
                ballots = [(order_from(chance.randrange(candidates), candidates, chance), chance.randrange(1, 7))
                           for ballot in range(many)]
                told = middle(candidates, ballots)
                self.assertIs(type(told), int)
                self.assertEqual(told, middle_by_the_words(candidates, ballots))
                self.assertGreaterEqual(min(counted(candidates, ballots)[told]), 0)

    def test_the_last_of_twenty(self):
        self.assertEqual(middle(20, [(list(range(19, -1, -1)), 2), (list(range(20)), 1)]), 19)

    def test_ballots_that_are_not_peaked(self):
        for candidates in (3, 4, 5):
            good = list(range(candidates))
            for order in itertools.permutations(range(candidates)):
                if not peaked_by_the_words(list(order)):
                    wrong = (list(order), 1)
                    for ballots in ([wrong], [(good, GREAT), wrong], [wrong, (good, 5)]):
                        with self.assertRaises(NotPeaked):
                            middle(candidates, ballots)

    def test_not_peaked_is_a_count_error(self):
        with self.assertRaises(CountError):
            middle(3, [([0, 2, 1], 1)])


class RefusedByBoth(unittest.TestCase):

    def refused(self, error, candidates, ballots):
        for ask in BOTH:
            with self.subTest(ask.__name__):
                with self.assertRaises(error):
                    ask(candidates, ballots)

    def test_candidates(self):
        for candidates in WRONG_CANDIDATES + [Unfriendly()]:
            self.refused(BadCandidates, candidates, [])
            self.refused(BadCandidates, candidates, [([0], 1)])

    def test_candidates_before_ballots(self):
        for candidates in WRONG_CANDIDATES:
            for ballots in (None, [None], [([0, 0], 1)], [([0, 2, 1], 1)], [([0, 2, 1], 0)]):
                self.refused(BadCandidates, candidates, ballots)

    def test_ballots(self):
        for ballots in NO_LISTS:
            self.refused(BadBallots, 3, ballots)
        for ballot in WRONG_BALLOTS:
            self.refused(BadBallots, 3, [ballot])
        for order in WRONG_ORDERS:
            self.refused(BadBallots, 3, [(order, 1)])
        for many in WRONG_COUNTS:
            self.refused(BadBallots, 3, [([0, 1, 2], many)])

    def test_unfriendly_ballots(self):
        for ballots in (Unfriendly(), [Unfriendly()], [(Unfriendly(), 1)], [([0, 1, Unfriendly()], 1)],
                        [([0, 1, 2], Unfriendly())]):
            self.refused(BadBallots, 3, ballots)

    def test_bad_ballots_before_not_peaked(self):
        not_peaked = ([0, 2, 1], 1)
        for wrong in (([0, 1, 2], 0), ([0, 1, 1], 1), ((0, 1, 2), 1), ([0, 2, 1], True), None):
            self.refused(BadBallots, 3, [not_peaked, wrong])
            self.refused(BadBallots, 3, [wrong, not_peaked])

    def test_ballots_of_more_or_less_candidates(self):
        self.refused(BadBallots, 2, [([0, 1, 2], 1)])
        self.refused(BadBallots, 4, [([0, 1, 2], 1)])
        self.refused(BadCandidates, 21, [(list(range(21)), 1)])

    def test_what_is_refused_is_unchanged(self):
        ballots = [([1, 0, 2], 4), ([0, 2, 1], 1)]
        with self.assertRaises(NotPeaked):
            middle(3, ballots)
        self.assertEqual(ballots, [([1, 0, 2], 4), ([0, 2, 1], 1)])


class HandedIn(unittest.TestCase):

    def test_it_is_unchanged(self):
        ballots = [([1, 0, 2], 4), ([2, 1, 0], 1), ([1, 0, 2], 4)]
        before = copy.deepcopy(ballots)
        orders = [order for order, many in ballots]
        for ask in BOTH:
            ask(3, ballots)
            self.assertEqual(ballots, before)
            for ballot, order in zip(ballots, orders):
                self.assertIs(ballot[0], order)

    def test_it_is_not_kept(self):
        order = [1, 0, 2]
        ballots = [(order, 4)]
        self.assertEqual(middle(3, ballots), 1)
        order[:] = [0, 2, 1]
        self.assertIs(peaked(3, ballots), False)
        order[:] = [2, 1, 0]
        self.assertIs(peaked(3, ballots), True)
        self.assertEqual(middle(3, ballots), 2)

    def test_the_arguments_have_their_names(self):
        self.assertIs(peaked(ballots=[([1, 0], 2)], candidates=2), True)
        self.assertEqual(middle(ballots=[([1, 0], 2)], candidates=2), 1)

    def test_twenty_candidates_and_very_great_counts_within_seconds(self):
        chance = random.Random(10)
        huge = 10 ** 50000
        ballots = [(order_from(at % 20, 20, chance), huge + at) for at in range(2000)]
        start = time.perf_counter()
        self.assertIs(peaked(20, ballots), True)
        # From 10 on there are more: of each two such ballots the latter one's count is greater.
        self.assertEqual(middle(20, ballots), 10)
        self.assertLess(time.perf_counter() - start, 10)


if __name__ == "__main__":
    unittest.main()
