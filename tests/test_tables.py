import copy
import itertools
import unittest

from headcounts.errors import BadBallots, BadCandidates, CountError
from headcounts.tables import counted
from tests.samples import (GREAT, NO_LISTS, Unfriendly, WRONG_BALLOTS, WRONG_CANDIDATES, WRONG_COUNTS, WRONG_ORDERS,
                           by_hand)


class OrdinaryBallots(unittest.TestCase):

    def test_one_ballot(self):
        self.assertEqual(counted(3, [([2, 0, 1], 1)]), [[0, 1, -1], [-1, 0, -1], [1, 1, 0]])

    def test_how_many_there_are_of_a_ballot_counts(self):
        self.assertEqual(counted(2, [([1, 0], 5)]), [[0, -5], [5, 0]])

    def test_what_is_behind_is_taken_off(self):
        self.assertEqual(counted(2, [([0, 1], 7), ([1, 0], 3)]), [[0, 4], [-4, 0]])

    def test_a_ring_of_three(self):
        ballots = [([0, 1, 2], 1), ([1, 2, 0], 1), ([2, 0, 1], 1)]
        self.assertEqual(counted(3, ballots), [[0, 1, -1], [-1, 0, 1], [1, -1, 0]])

    def test_the_arguments_have_their_names(self):
        self.assertEqual(counted(ballots=[([0, 1], 2)], candidates=2), [[0, 2], [-2, 0]])

    def test_all_orders_of_up_to_four_against_the_words(self):
        for candidates in range(1, 5):
            orders = [list(order) for order in itertools.permutations(range(candidates))]
            for at, order in enumerate(orders):
                ballots = [(order, at + 1), (orders[at - 1], 3), (orders[at // 2], 2)]
                with self.subTest(ballots=ballots):
                    self.assertEqual(counted(candidates, ballots), by_hand(candidates, ballots))


class Edges(unittest.TestCase):

    def test_no_ballots(self):
        for candidates in (1, 2, 20):
            self.assertEqual(counted(candidates, []), [[0] * candidates] * candidates)

    def test_one_candidate(self):
        self.assertEqual(counted(1, [([0], 1), ([0], 9)]), [[0]])

    def test_twenty_candidates(self):
        ballots = [(list(range(20)), 3), (list(range(19, -1, -1)), 1), ([7 * at % 20 for at in range(20)], 4)]
        table = counted(20, ballots)
        self.assertEqual(table, by_hand(20, ballots))
        self.assertEqual(len(table), 20)
        self.assertEqual({len(row) for row in table}, {20})

    def test_one_order_in_several_ballots(self):
        ballots = [([1, 0, 2], 2), ([0, 1, 2], 1), ([1, 0, 2], 3), ([1, 0, 2], 3)]
        self.assertEqual(counted(3, ballots), counted(3, [([0, 1, 2], 1), ([1, 0, 2], 8)]))
        self.assertEqual(counted(3, ballots), [[0, -7, 9], [7, 0, 9], [-9, -9, 0]])

    def test_very_great_counts(self):
        self.assertEqual(counted(2, [([0, 1], GREAT), ([1, 0], 1)]), [[0, GREAT - 1], [1 - GREAT, 0]])
        self.assertEqual(counted(2, [([0, 1], 1), ([1, 0], GREAT)]), [[0, 1 - GREAT], [GREAT - 1, 0]])

    def test_many_ballots(self):
        ballots = [([0, 1, 2], 1), ([2, 1, 0], 2)] * 1000
        self.assertEqual(counted(3, ballots), [[0, -1000, -1000], [1000, 0, -1000], [1000, 1000, 0]])


class WhatIsTold(unittest.TestCase):

    def test_it_is_a_list_of_lists_of_whole_numbers(self):
        table = counted(3, [([2, 0, 1], 4)])
        self.assertIs(type(table), list)
        for row in table:
            self.assertIs(type(row), list)
            for number in row:
                self.assertIs(type(number), int)

    def test_no_two_rows_are_one_list(self):
        for ballots in ([], [([2, 0, 1], 4)]):
            table = counted(3, ballots)
            table[0][1] = 99
            table[0].append(5)
            self.assertEqual(table[1:], counted(3, ballots)[1:])

    def test_it_is_new_each_time(self):
        ballots = [([1, 0], 1)]
        table = counted(2, ballots)
        table[0][1] = 99
        table.clear()
        self.assertEqual(counted(2, ballots), [[0, -1], [1, 0]])

    def test_what_is_handed_in_is_unchanged(self):
        ballots = [([2, 0, 1], 4), ([0, 1, 2], 1), ([2, 0, 1], 4)]
        before = copy.deepcopy(ballots)
        orders = [order for order, many in ballots]
        counted(3, ballots)
        self.assertEqual(ballots, before)
        for ballot, order in zip(ballots, orders):
            self.assertIs(ballot[0], order)

    def test_what_is_refused_is_unchanged(self):
        ballots = [([2, 0, 1], 4), ([0, 1, 1], 1)]
        with self.assertRaises(BadBallots):
            counted(3, ballots)
        self.assertEqual(ballots, [([2, 0, 1], 4), ([0, 1, 1], 1)])

    def test_changing_what_was_handed_in_changes_no_table(self):
        order = [1, 0]
        ballots = [(order, 3)]
        table = counted(2, ballots)
        order.reverse()
        ballots.append(([0, 1], 8))
        self.assertEqual(table, [[0, -3], [3, 0]])


class RefusedCandidates(unittest.TestCase):

    def test_what_is_no_whole_number_from_1_to_20(self):
        for at, candidates in enumerate(WRONG_CANDIDATES):
            with self.subTest(at):
                with self.assertRaises(BadCandidates):
                    counted(candidates, [])

    def test_true_is_not_one_candidate(self):
        with self.assertRaises(BadCandidates):
            counted(True, [([0], 1)])

    def test_twenty_one_with_ballots_of_theirs(self):
        with self.assertRaises(BadCandidates):
            counted(21, [(list(range(21)), 1)])

    def test_1_to_20_are_not_refused(self):
        for candidates in range(1, 21):
            self.assertEqual(len(counted(candidates, [(list(range(candidates)), 1)])), candidates)

    def test_candidates_are_refused_before_ballots(self):
        for at, candidates in enumerate(WRONG_CANDIDATES):
            for ballots in (None, 5, [None], [([0, 0], 1)], [([0], 0)], ([0], 1)):
                with self.subTest(at, ballots=ballots):
                    with self.assertRaises(BadCandidates):
                        counted(candidates, ballots)

    def test_an_unfriendly_one(self):
        with self.assertRaises(BadCandidates):
            counted(Unfriendly(), [])


class RefusedBallots(unittest.TestCase):

    def refused(self, ballots, candidates=3):
        with self.assertRaises(BadBallots):
            counted(candidates, ballots)

    def test_what_is_no_list(self):
        for at, ballots in enumerate(NO_LISTS):
            with self.subTest(at):
                self.refused(ballots)

    def test_a_ballot_that_is_none(self):
        for at, ballot in enumerate(WRONG_BALLOTS):
            with self.subTest(at):
                self.refused([ballot])

    def test_an_order_that_is_none(self):
        for at, order in enumerate(WRONG_ORDERS):
            with self.subTest(at):
                self.refused([(order, 1)])

    def test_a_count_that_is_none(self):
        for at, many in enumerate(WRONG_COUNTS):
            with self.subTest(at):
                self.refused([([0, 1, 2], many)])

    def test_one_wrong_ballot_among_others(self):
        good = ([2, 1, 0], 2)
        wrong = [([0, 1, 1], 1), ([0, 1, 2], 0), ([0, 1, 2], True), [[0, 1, 2], 1], ((0, 1, 2), 1)]
        for at, ballot in enumerate(wrong):
            for place in range(4):
                ballots = [good, good, good]
                ballots.insert(place, ballot)
                with self.subTest(at, place=place):
                    self.refused(ballots)

    def test_ballots_of_more_or_less_candidates(self):
        self.refused([([0, 1, 2], 1)], 2)
        self.refused([([0, 1, 2], 1)], 4)
        self.refused([([0], 1)], 2)
        self.refused([([0, 1], 1)], 1)
        self.refused([(list(range(21)), 1)], 20)
        self.refused([(list(range(19)), 1)], 20)

    def test_one_candidate(self):
        for order in ([], [1], [-1], [0, 0], [False], (0,), [0.0], 0):
            with self.subTest(order=order):
                self.refused([(order, 1)], 1)

    def test_unfriendly_ones(self):
        for ballots in (Unfriendly(), [Unfriendly()], [(Unfriendly(), 1)], [([0, 1, Unfriendly()], 1)],
                        [([Unfriendly(), 1, 2], 1)], [([0, 1, 2], Unfriendly())]):
            self.refused(ballots)

    def test_a_list_within_itself(self):
        ballots = []
        ballots.append(ballots)
        self.refused(ballots)
        order = [0, 1]
        order.append(order)
        self.refused([(order, 1)])

    def test_both_refusals_are_count_errors(self):
        with self.assertRaises(CountError):
            counted(0, [])
        with self.assertRaises(CountError):
            counted(1, None)


if __name__ == "__main__":
    unittest.main()
