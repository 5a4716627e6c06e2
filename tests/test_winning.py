import copy
import itertools
import random
import time
import unittest

from headcounts.answers import Ring, Unbeaten
from headcounts.winning import foremost, order, strengths, tops
from tests.samples import GREAT, lists_within, table_by, tables_of

ASKED = (foremost, tops, strengths, order)
RING_OF_THREE = [[0, 1, -1], [-1, 0, 1], [1, -1, 0]]
# 0, 1 and 2 are a ring; each of them is ahead of 3 and 4.
RING_ABOVE_TWO = [
    [0, 1, -3, 2, 5], [-1, 0, 1, 4, 2], [3, -1, 0, 2, 2], [-2, -4, -2, 0, 7], [-5, -2, -2, -7, 0],
]
# 3 is ahead of a ring.
ONE_ABOVE_RING = [[0, 1, -1, -5], [-1, 0, 1, -5], [1, -1, 0, -5], [5, 5, 5, 0]]
TWENTY_IN_LINE = table_by(20, lambda one, other: 1)
TWENTY_IN_RING = table_by(20, lambda one, other: 1 if other == one + 1 else -1 if (one, other) == (0, 19) else 0)
TWENTY_GREAT = table_by(20, lambda one, other: (-1) ** (one * other) * (GREAT + 13 * one - 7 * other))


def small_tables():
    """Many tables of one to five candidates."""
    for candidates in (1, 2, 3):
        yield from tables_of(candidates, range(-3, 4))
    yield from tables_of(4, (-2, 0, 1, 3))
    chance = random.Random(5)
    for choice in ((-1, 1), (-1, 0, 1), (-9, -4, -3, -1, 0, 1, 2, 5, 8)):
        for turn in range(150):
            yield table_by(5, lambda one, other: chance.choice(choice))
        for turn in range(10):
            yield table_by(6, lambda one, other: chance.choice(choice))


def are_ahead(table, group):
    """Whether each of a group is ahead of each one outside."""
    return all(table[one][other] > 0 for one in group for other in range(len(table)) if other not in group)


def strength_by_all_chains(table, start, end):
    """The strength of the strongest chain, each one tried."""
    others = [who for who in range(len(table)) if who not in (start, end)]
    found = []
    for length in range(len(others) + 1):
        for between in itertools.permutations(others, length):
            chain = [start, *between, end]
            found.append(min(table[one][after] for one, after in zip(chain, chain[1:])))
    return max(found)


def strengths_by_all_chains(table):
    everybody = range(len(table))
    return [[0 if one == other else strength_by_all_chains(table, one, other) for other in everybody]
            for one in everybody]


class Foremost(unittest.TestCase):

    def unbeaten(self, table):
        answer = foremost(table)
        self.assertIs(type(answer), Unbeaten)
        self.assertIs(type(answer.who), int)
        self.assertIn(answer.who, range(len(table)))
        self.assertFalse([other for other in range(len(table)) if table[other][answer.who] > 0])
        self.assertIs(answer.shows(table), True)
        return answer.who

    def ring(self, table):
        answer = foremost(table)
        self.assertIs(type(answer), Ring)
        self.assertIs(type(answer.way), list)
        for who in answer.way:
            self.assertIs(type(who), int)
            self.assertIn(who, range(len(table)))
        self.assertGreaterEqual(len(answer.way), 3)
        self.assertEqual(len(set(answer.way)), len(answer.way))
        for at in range(len(answer.way)):
            self.assertGreater(table[answer.way[at - 1]][answer.way[at]], 0)
        self.assertIs(answer.shows(table), True)
        return answer.way

    def test_one_ahead_of_all(self):
        self.assertEqual(self.unbeaten([[0, 2, 4], [-2, 0, 6], [-4, -6, 0]]), 0)
        self.assertEqual(self.unbeaten([[0, 2, -4], [-2, 0, -6], [4, 6, 0]]), 2)

    def test_level_with_all_but_ahead_of_none(self):
        self.assertEqual(self.unbeaten([[0, 1, -1, 0], [-1, 0, 1, 0], [1, -1, 0, 0], [0, 0, 0, 0]]), 3)

    def test_unbeaten_goes_before_a_ring(self):
        self.assertEqual(self.unbeaten(ONE_ABOVE_RING), 3)

    def test_a_ring_of_three(self):
        self.assertIn(self.ring(RING_OF_THREE), ([0, 1, 2], [1, 2, 0], [2, 0, 1]))
        self.assertIn(self.ring([[0, -1, 1], [1, 0, -1], [-1, 1, 0]]), ([2, 1, 0], [1, 0, 2], [0, 2, 1]))

    def test_a_ring_whose_members_are_ahead_of_all_others(self):
        self.assertEqual(sorted(self.ring(RING_ABOVE_TWO)), [0, 1, 2])
        for turned in itertools.permutations(range(5)):
            self.ring([[RING_ABOVE_TWO[one][other] for other in turned] for one in turned])

    def test_one_candidate(self):
        self.assertEqual(self.unbeaten([[0]]), 0)

    def test_two_candidates(self):
        self.assertEqual(self.unbeaten([[0, 1], [-1, 0]]), 0)
        self.assertEqual(self.unbeaten([[0, -1], [1, 0]]), 1)
        self.unbeaten([[0, 0], [0, 0]])

    def test_all_numbers_0(self):
        for candidates in range(1, 21):
            self.unbeaten([[0] * candidates for row in range(candidates)])

    def test_twenty_candidates(self):
        self.assertEqual(self.unbeaten(TWENTY_IN_LINE), 0)
        self.assertEqual(self.unbeaten(table_by(20, lambda one, other: -1)), 19)
        self.assertEqual(sorted(self.ring(TWENTY_IN_RING)), list(range(20)))

    def test_very_great_numbers(self):
        self.assertEqual(self.unbeaten([[0, -GREAT, 1], [GREAT, 0, GREAT], [-1, -GREAT, 0]]), 1)
        self.ring([[0, GREAT, -1], [-GREAT, 0, GREAT], [1, -GREAT, 0]])

    def test_small_tables(self):
        for table in small_tables():
            everybody = range(len(table))
            if any(all(table[other][who] <= 0 for other in everybody) for who in everybody):
                self.unbeaten(table)
            else:
                self.ring(table)

    def test_greater_tables(self):
        chance = random.Random(6)
        kinds = set()
        for candidates in range(7, 21):
            for choice in ((-1, 1), (-1, 0, 0, 0, 0, 0, 0, 0, 1), (1, 1, 1, 1, 1, 1, -1), (GREAT, -GREAT)):
                table = table_by(candidates, lambda one, other: chance.choice(choice))
                answer = foremost(table)
                kinds.add(type(answer))
                self.assertIs(answer.shows(table), True)
                beaten = [who for who in range(candidates) if min(table[who]) < 0]
                self.assertEqual(type(answer) is Ring, len(beaten) == candidates)
        self.assertEqual(kinds, {Unbeaten, Ring})


class Tops(unittest.TestCase):

    def test_one_ahead_of_all(self):
        self.assertEqual(tops([[0, 2, 4], [-2, 0, 6], [-4, -6, 0]]), [0])
        self.assertEqual(tops(ONE_ABOVE_RING), [3])

    def test_rings(self):
        self.assertEqual(tops(RING_OF_THREE), [0, 1, 2])
        self.assertEqual(tops(RING_ABOVE_TWO), [0, 1, 2])
        self.assertEqual(tops(TWENTY_IN_RING), list(range(20)))

    def test_it_rises_whoever_is_in_it(self):
        for turned in itertools.permutations(range(5)):
            table = [[RING_ABOVE_TWO[one][other] for other in turned] for one in turned]
            self.assertEqual(tops(table), [at for at in range(5) if turned[at] < 3])

    def test_level_is_not_ahead(self):
        self.assertEqual(tops([[0, 0], [0, 0]]), [0, 1])
        self.assertEqual(tops([[0, 0, 1], [0, 0, 1], [-1, -1, 0]]), [0, 1])
        # 0 is level with 2, and 1 is ahead of 2: all three.
        self.assertEqual(tops([[0, 1, 0], [-1, 0, 1], [0, -1, 0]]), [0, 1, 2])

    def test_unbeaten_yet_not_alone(self):
        self.assertEqual(tops([[0, 0, 5], [0, 0, -1], [-5, 1, 0]]), [0, 1, 2])

    def test_one_and_two_candidates(self):
        self.assertEqual(tops([[0]]), [0])
        self.assertEqual(tops([[0, 1], [-1, 0]]), [0])
        self.assertEqual(tops([[0, -1], [1, 0]]), [1])

    def test_all_numbers_0(self):
        for candidates in range(1, 21):
            self.assertEqual(tops([[0] * candidates for row in range(candidates)]), list(range(candidates)))

    def test_twenty_candidates(self):
        self.assertEqual(tops(TWENTY_IN_LINE), [0])
        self.assertEqual(tops(table_by(20, lambda one, other: -1)), [19])
        # The last three are a ring, each ahead of the 17 others.
        ring = {(17, 18): 1, (18, 19): 1, (17, 19): -1}
        self.assertEqual(tops(table_by(20, lambda one, other: ring.get((one, other), -2))), [17, 18, 19])

    def test_very_great_numbers(self):
        self.assertEqual(tops([[0, -GREAT, 1], [GREAT, 0, GREAT], [-1, -GREAT, 0]]), [1])
        self.assertEqual(tops([[0, GREAT, -1], [-GREAT, 0, GREAT], [1, -GREAT, 0]]), [0, 1, 2])

    def test_small_tables_against_every_group(self):
        for table in small_tables():
            told = tops(table)
            self.assertGreaterEqual(len(told), 1)
            self.assertEqual(told, sorted(set(told)))
            self.assertTrue(are_ahead(table, told), (table, told))
            # Every group that is smaller fails, and every other one as small.
            for length in range(1, len(told) + 1):
                for group in itertools.combinations(range(len(table)), length):
                    if list(group) != told:
                        self.assertFalse(are_ahead(table, group), (table, told, group))


class Strengths(unittest.TestCase):

    def test_a_chain_over_another_one(self):
        table = [[0, 4, 1], [-4, 0, 3], [-1, -3, 0]]
        self.assertEqual(strengths(table), [[0, 4, 3], [-1, 0, 3], [-1, -1, 0]])

    def test_a_ring_of_three(self):
        self.assertEqual(strengths(RING_OF_THREE), [[0, 1, 1], [1, 0, 1], [1, 1, 0]])
        self.assertEqual(strengths([[0, 5, -3], [-5, 0, 4], [3, -4, 0]]), [[0, 5, 4], [3, 0, 4], [3, 3, 0]])

    def test_below_0(self):
        self.assertEqual(strengths([[0, -3], [3, 0]]), [[0, -3], [3, 0]])

    def test_one_and_two_candidates(self):
        self.assertEqual(strengths([[0]]), [[0]])
        self.assertEqual(strengths([[0, 0], [0, 0]]), [[0, 0], [0, 0]])
        self.assertEqual(strengths([[0, 7], [-7, 0]]), [[0, 7], [-7, 0]])

    def test_all_numbers_0(self):
        for candidates in range(1, 21):
            rows = [[0] * candidates for row in range(candidates)]
            self.assertEqual(strengths(rows), rows)

    def test_equal_numbers(self):
        self.assertEqual(strengths(table_by(4, lambda one, other: 2)), table_by(4, lambda one, other: 2))

    def test_twenty_candidates(self):
        self.assertEqual(strengths(TWENTY_IN_RING), [[int(one != other) for other in range(20)] for one in range(20)])
        # One chain goes through all: each step as strong as 50, all others -1.
        line = table_by(20, lambda one, other: 50 if other == one + 1 else -1)
        told = strengths(line)
        for one, other in itertools.combinations(range(20), 2):
            self.assertEqual(told[one][other], 50)
        self.assertEqual([told[who][who] for who in range(20)], [0] * 20)

    def test_very_great_numbers(self):
        table = [[0, GREAT, 1 - GREAT], [-GREAT, 0, GREAT + 1], [GREAT - 1, -GREAT - 1, 0]]
        self.assertEqual(strengths(table), [[0, GREAT, GREAT], [GREAT - 1, 0, GREAT + 1], [GREAT - 1, GREAT - 1, 0]])
        self.assertEqual(strengths([[0, -GREAT], [GREAT, 0]]), [[0, -GREAT], [GREAT, 0]])

    def test_small_tables_against_every_chain(self):
        for table in small_tables():
            self.assertEqual(strengths(table), strengths_by_all_chains(table), table)

    def test_greater_tables_against_thresholds(self):
        # There is a chain as strong as a number just if one is led to the other by steps of no less.
        chance = random.Random(7)
        for candidates in (8, 13, 20):
            table = table_by(candidates, lambda one, other: chance.randrange(-30, 31))
            told = strengths(table)
            for start in range(candidates):
                self.assertEqual(told[start][start], 0)
                for end in range(candidates):
                    if start != end:
                        self.assertIn(end, self.reached(table, start, told[start][end]))
                        self.assertNotIn(end, self.reached(table, start, told[start][end] + 1))

    def reached(self, table, start, number):
        found = [start]
        for who in found:
            found += [other for other in range(len(table))
                      if other not in found and other != who and table[who][other] >= number]
        return found

    def test_it_is_a_list_of_lists_of_whole_numbers(self):
        told = strengths(RING_ABOVE_TWO)
        self.assertIs(type(told), list)
        for row in told:
            self.assertIs(type(row), list)
            for number in row:
                self.assertIs(type(number), int)


class Order(unittest.TestCase):

    def looked_at(self, table, by):
        """The order that is told, by the strengths."""
        told = order(table)
        self.assertIs(type(told), list)
        self.assertEqual(sorted(told), list(range(len(table))))
        for who in told:
            self.assertIs(type(who), int)
        for place, before in enumerate(told):
            for behind in told[place + 1:]:
                self.assertLessEqual(by[behind][before], by[before][behind], (table, told))
        return told

    def test_one_ahead_of_all(self):
        self.assertEqual(order([[0, 2, 4], [-2, 0, 6], [-4, -6, 0]]), [0, 1, 2])
        self.assertEqual(order([[0, -2, -4], [2, 0, -6], [4, 6, 0]]), [2, 1, 0])

    def test_a_ring_whose_steps_are_not_equal(self):
        # Strengths: 0 to 1 5, 1 to 0 3; 1 to 2 4, 2 to 1 3; 0 to 2 4, 2 to 0 3.
        self.assertEqual(order([[0, 5, -3], [-5, 0, 4], [3, -4, 0]]), [0, 1, 2])
        self.assertEqual(order([[0, -3, 5], [3, 0, -4], [-5, 4, 0]]), [0, 2, 1])

    def test_ahead_by_chains_against_the_number(self):
        # 2 is ahead of 0 by 1, yet the chain 0, 1, 2 is stronger.
        self.assertEqual(order([[0, 9, -1], [-9, 0, 8], [1, -8, 0]]), [0, 1, 2])

    def test_one_and_two_candidates(self):
        self.assertEqual(order([[0]]), [0])
        self.assertEqual(order([[0, 1], [-1, 0]]), [0, 1])
        self.assertEqual(order([[0, -1], [1, 0]]), [1, 0])
        self.assertEqual(sorted(order([[0, 0], [0, 0]])), [0, 1])

    def test_all_numbers_0(self):
        for candidates in range(1, 21):
            table = [[0] * candidates for row in range(candidates)]
            self.looked_at(table, table)

    def test_twenty_candidates(self):
        self.assertEqual(order(TWENTY_IN_LINE), list(range(20)))
        self.assertEqual(order(table_by(20, lambda one, other: -1)), list(range(19, -1, -1)))
        self.looked_at(TWENTY_IN_RING, strengths(TWENTY_IN_RING))
        self.looked_at(TWENTY_GREAT, strengths(TWENTY_GREAT))

    def test_very_great_numbers(self):
        self.assertEqual(order([[0, -GREAT, 1], [GREAT, 0, GREAT], [-1, -GREAT, 0]]), [1, 0, 2])
        self.assertEqual(
            order([[0, GREAT, 1 - GREAT], [-GREAT, 0, GREAT + 1], [GREAT - 1, -GREAT - 1, 0]]), [0, 1, 2])

    def test_small_tables_against_every_chain(self):
        for table in small_tables():
            self.looked_at(table, strengths_by_all_chains(table))

    def test_greater_tables(self):
        chance = random.Random(8)
        for candidates in range(7, 21):
            for reach in (1, 2, 10, 1000):
                table = table_by(candidates, lambda one, other: chance.randrange(-reach, reach + 1))
                self.looked_at(table, strengths(table))

    def test_the_tops_go_first(self):
        for table in small_tables():
            group = tops(table)
            self.assertEqual(sorted(order(table)[:len(group)]), group, table)


class Time(unittest.TestCase):

    def test_twenty_candidates_and_very_great_numbers_within_seconds(self):
        huge = 10 ** 50000
        tables = [TWENTY_IN_LINE, TWENTY_IN_RING, TWENTY_GREAT,
                  table_by(20, lambda one, other: (-1) ** (one + other) * (huge + 3 * one - other)),
                  table_by(20, lambda one, other: -huge - 3 * one + other)]
        for ask in ASKED:
            start = time.perf_counter()
            for table in tables:
                ask(table)
            self.assertLess(time.perf_counter() - start, 10, ask.__name__)


class WhatIsTold(unittest.TestCase):

    TABLES = (
        [[0]], [[0, 2], [-2, 0]], [[0, 0, 0], [0, 0, 0], [0, 0, 0]], RING_OF_THREE, RING_ABOVE_TWO, ONE_ABOVE_RING,
    )

    def plain(self, thing):
        return list(vars(thing).values()) if isinstance(thing, (Unbeaten, Ring)) else thing

    def test_what_is_handed_in_is_unchanged(self):
        for ask in ASKED:
            for table in self.TABLES:
                handed_in = copy.deepcopy(table)
                rows = list(handed_in)
                ask(handed_in)
                self.assertEqual(handed_in, table)
                for row, same in zip(rows, handed_in):
                    self.assertIs(row, same)

    def test_each_list_is_the_askers_own(self):
        for ask in ASKED:
            for table in self.TABLES:
                told = [self.plain(ask(table)), self.plain(ask(table))]
                lists = lists_within(told) + lists_within(table)
                self.assertEqual(len({id(found) for found in lists}), len(lists), ask.__name__)

    def test_changing_what_was_told_changes_nothing_else(self):
        for ask in ASKED:
            for table in self.TABLES:
                before = copy.deepcopy(table)
                first = self.plain(ask(table))
                second = self.plain(ask(table))
                kept = copy.deepcopy(second)
                for found in lists_within(first):
                    found.append(99)
                    found.reverse()
                self.assertEqual(second, kept)
                self.assertEqual(table, before)
                self.assertEqual(self.plain(ask(table)), kept)

    def test_changing_what_was_handed_in_changes_nothing_told(self):
        for ask in ASKED:
            for table in self.TABLES:
                handed_in = copy.deepcopy(table)
                told = self.plain(ask(handed_in))
                kept = copy.deepcopy(told)
                for found in lists_within(handed_in):
                    found.append(99)
                    found.reverse()
                self.assertEqual(told, kept)


if __name__ == "__main__":
    unittest.main()
