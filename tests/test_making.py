import copy
import itertools
import random
import time
import unittest

from headcounts.answers import Answer, Ballots, Uneven
from headcounts.making import told
from headcounts.tables import counted
from tests.samples import GREAT, by_hand, lists_within, table_by, tables_of


def parities(table):
    """Of the numbers that are not a candidate's own."""
    return {table[one][other] % 2 for one, other in itertools.permutations(range(len(table)), 2)}


class ToldCase(unittest.TestCase):

    def ballots_told(self, table):
        """The ballots that are told, looked at one by one."""
        answer = told(table)
        self.assertIs(type(answer), Ballots)
        self.assertIs(type(answer.ballots), list)
        for ballot in answer.ballots:
            self.assertIs(type(ballot), tuple)
            order, many = ballot
            self.assertIs(type(order), list)
            self.assertEqual(sorted(order), list(range(len(table))))
            self.assertIs(type(many), int)
            self.assertGreaterEqual(many, 1)
        self.assertEqual(by_hand(len(table), answer.ballots), table)
        self.assertEqual(counted(len(table), answer.ballots), table)
        self.assertIs(answer.shows(table), True)
        return answer.ballots

    def uneven_told(self, table):
        answer = told(table)
        self.assertIs(type(answer), Uneven)
        for pair in (answer.one, answer.other):
            self.assertIs(type(pair), tuple)
            self.assertEqual(len(pair), 2)
            self.assertEqual(len(set(pair)), 2)
            for who in pair:
                self.assertIs(type(who), int)
                self.assertIn(who, range(len(table)))
        numbers = [table[first][second] for first, second in (answer.one, answer.other)]
        self.assertEqual({number % 2 for number in numbers}, {0, 1})
        self.assertIs(answer.shows(table), True)
        return answer

    def looked_at(self, table):
        if len(parities(table)) == 2:
            self.uneven_told(table)
        else:
            self.ballots_told(table)


class ManyTables(ToldCase):

    def test_all_small_tables_of_one_to_three(self):
        for candidates in (1, 2, 3):
            for table in tables_of(candidates, range(-5, 6)):
                self.looked_at(table)

    def test_small_tables_of_four(self):
        for table in tables_of(4, (-3, -2, 0, 1)):
            self.looked_at(table)

    def test_all_even_and_all_odd_ones_of_four(self):
        for table in itertools.chain(tables_of(4, (-4, 0, 2)), tables_of(4, (-3, -1, 1))):
            self.ballots_told(table)

    def test_of_five_to_twenty(self):
        chance = random.Random(3)
        for candidates in range(5, 21):
            for choice in ((-6, -2, 0, 2, 8), (-5, -1, 1, 3), (GREAT, -GREAT, 4), (GREAT + 1, -GREAT + 1, -1)):
                table = table_by(candidates, lambda one, other: chance.choice(choice))
                self.ballots_told(table)
                table[0][1] += 1
                table[1][0] -= 1
                self.uneven_told(table)

    def test_tables_of_ballots_are_never_uneven(self):
        chance = random.Random(4)
        for candidates in range(1, 9):
            for many in range(6):
                orders = [chance.sample(range(candidates), candidates) for ballot in range(many)]
                table = counted(candidates, [(order, chance.randrange(1, 9)) for order in orders])
                self.ballots_told(table)


class Edges(ToldCase):

    def test_one_candidate(self):
        self.ballots_told([[0]])

    def test_two_candidates(self):
        for number in (0, 1, -1, 2, -2, 7, -8, GREAT, -GREAT, GREAT + 1, -GREAT - 1):
            self.ballots_told([[0, number], [-number, 0]])

    def test_all_numbers_0(self):
        for candidates in range(1, 21):
            self.ballots_told([[0] * candidates for row in range(candidates)])

    def test_equal_numbers(self):
        for candidates in (2, 3, 7, 20):
            for number in (1, -1, 2, -2, 9, -10, GREAT, -GREAT - 1):
                self.ballots_told(table_by(candidates, lambda one, other: number))

    def test_all_but_one_even(self):
        for candidates in (3, 4, 20):
            for place in itertools.combinations(range(candidates), 2):
                for odd in (1, -3):
                    table = table_by(candidates, lambda one, other: odd if (one, other) == place else 2 * other)
                    answer = self.uneven_told(table)
                    self.assertIn(set(place), (set(answer.one), set(answer.other)))

    def test_all_but_one_odd(self):
        for candidates in (3, 4, 20):
            for place in itertools.combinations(range(candidates), 2):
                for even in (0, -2, 4):
                    table = table_by(candidates, lambda one, other: even if (one, other) == place else 2 * other - 9)
                    answer = self.uneven_told(table)
                    self.assertIn(set(place), (set(answer.one), set(answer.other)))

    def test_a_ring_of_three(self):
        self.ballots_told([[0, 1, -1], [-1, 0, 1], [1, -1, 0]])
        self.ballots_told([[0, 2, -2], [-2, 0, 2], [2, -2, 0]])

    def test_very_great_numbers(self):
        self.ballots_told([[0, GREAT, -GREAT], [-GREAT, 0, 0], [GREAT, 0, 0]])
        self.ballots_told([[0, GREAT + 1, 1 - GREAT], [-GREAT - 1, 0, -1], [GREAT - 1, 1, 0]])
        self.uneven_told([[0, GREAT, 1 - GREAT], [-GREAT, 0, 0], [GREAT - 1, 0, 0]])

    def test_twenty_candidates_and_very_great_numbers_within_seconds(self):
        huge = 10 ** 20000
        tables = [table_by(20, lambda one, other: sign * (huge + add + 2 * one - 2 * other))
                  for sign in (1, -1) for add in (0, 1)]
        uneven = table_by(20, lambda one, other: huge + one * other)
        start = time.perf_counter()
        answers = [told(table) for table in tables]
        told(uneven)
        self.assertLess(time.perf_counter() - start, 10)
        for answer, table in zip(answers, tables):
            self.assertTrue(counted(20, answer.ballots) == table)


class WhatIsTold(ToldCase):

    TABLES = (
        [[0]], [[0, 0], [0, 0]], [[0, 4], [-4, 0]], [[0, 3, -1], [-3, 0, 5], [1, -5, 0]],
        [[0, 2, -4], [-2, 0, 0], [4, 0, 0]], [[0, 2, -1], [-2, 0, 0], [1, 0, 0]],
    )

    def test_they_are_answers(self):
        for table in self.TABLES:
            self.assertIsInstance(told(table), Answer)

    def test_what_is_handed_in_is_unchanged(self):
        for table in self.TABLES:
            before = copy.deepcopy(table)
            handed_in = copy.deepcopy(table)
            rows = list(handed_in)
            told(handed_in)
            self.assertEqual(handed_in, before)
            for row, same in zip(rows, handed_in):
                self.assertIs(row, same)

    def test_each_list_is_the_askers_own(self):
        for table in self.TABLES:
            answer = told(table)
            again = told(table)
            lists = lists_within(list(vars(answer).values()))[1:]
            lists += lists_within(list(vars(again).values()))[1:] + lists_within(table)
            self.assertEqual(len({id(found) for found in lists}), len(lists))

    def test_changing_what_was_told_changes_nothing_else(self):
        table = [[0, 3, -1], [-3, 0, 5], [1, -5, 0]]
        first = told(table)
        second = told(table)
        kept = copy.deepcopy(second.ballots)
        for order, many in first.ballots:
            order.append(9)
            order.reverse()
        first.ballots.clear()
        self.assertEqual(second.ballots, kept)
        self.assertEqual(table, [[0, 3, -1], [-3, 0, 5], [1, -5, 0]])
        self.assertEqual(told(table).ballots, kept)

    def test_changing_one_order_leaves_the_others(self):
        table = [[0, 3, -1], [-3, 0, 5], [1, -5, 0]]
        for at in range(len(told(table).ballots)):
            ballots = told(table).ballots
            kept = copy.deepcopy(ballots)
            ballots[at][0].clear()
            self.assertEqual(ballots[:at] + ballots[at + 1:], kept[:at] + kept[at + 1:])

    def test_changing_what_was_handed_in_changes_no_answer(self):
        table = [[0, 3, -1], [-3, 0, 5], [1, -5, 0]]
        answer = told(table)
        kept = copy.deepcopy(answer.ballots)
        table[0][1] = 99
        table[2].clear()
        table.pop()
        self.assertEqual(answer.ballots, kept)
        self.assertIs(answer.shows([[0, 3, -1], [-3, 0, 5], [1, -5, 0]]), True)


if __name__ == "__main__":
    unittest.main()
