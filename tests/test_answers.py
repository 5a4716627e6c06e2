import copy
import itertools
import unittest

from headcounts import answers
from headcounts.answers import Answer, Ballots, Ring, Unbeaten, Uneven
from headcounts.tables import counted
from tests.samples import GREAT, tables_of

RING_OF_THREE = [[0, 1, -1], [-1, 0, 1], [1, -1, 0]]
FIRST_IS_AHEAD = [[0, 2, 4], [-2, 0, 6], [-4, -6, 0]]
ALL_EVEN = [[0, 0, 0], [0, 0, 0], [0, 0, 0]]
TWENTY = [[(after > row) - (after < row) for after in range(20)] for row in range(20)]
TWENTY_IN_RING = [
    [1 if (after - row) % 20 == 1 else -1 if (row - after) % 20 == 1 else 0 for after in range(20)] for row in range(20)
]


class ShownCase(unittest.TestCase):

    def shown(self, answer, table):
        self.assertIs(answer.shows(table), True)

    def unshown(self, answer, table):
        self.assertIs(answer.shows(table), False)


class Classes(unittest.TestCase):

    def test_the_four_stand_straight_under_answer(self):
        self.assertEqual(Answer.__bases__, (object,))
        for name in ("Ballots", "Uneven", "Unbeaten", "Ring"):
            with self.subTest(name):
                self.assertEqual(getattr(answers, name).__bases__, (Answer,))

    def test_each_has_shows_itself(self):
        for kind in (Ballots, Uneven, Unbeaten, Ring):
            self.assertIn("shows", vars(kind))

    def test_fields(self):
        self.assertEqual(vars(Ballots([([0, 1], 2)])), {"ballots": [([0, 1], 2)]})
        self.assertEqual(vars(Uneven((0, 1), (2, 1))), {"one": (0, 1), "other": (2, 1)})
        self.assertEqual(vars(Unbeaten(3)), {"who": 3})
        self.assertEqual(vars(Ring([2, 1, 0])), {"way": [2, 1, 0]})

    def test_the_arguments_have_their_names(self):
        self.assertEqual(Ballots(ballots=[]).ballots, [])
        uneven = Uneven(other=(2, 1), one=(0, 1))
        self.assertEqual((uneven.one, uneven.other), ((0, 1), (2, 1)))
        self.assertEqual(Unbeaten(who=0).who, 0)
        self.assertEqual(Ring(way=[0]).way, [0])
        self.assertIs(Unbeaten(0).shows(table=[[0]]), True)
        self.assertIs(Ballots([]).shows(table=[[0]]), True)
        self.assertIs(Ring([0]).shows(table=[[0]]), False)
        self.assertIs(Uneven((0, 0), (0, 0)).shows(table=[[0]]), False)

    def test_the_kinds_of_the_fields(self):
        field = Ballots([([1, 0], 2)]).ballots
        self.assertEqual([type(field), type(field[0]), type(field[0][0])], [list, tuple, list])
        self.assertIs(type(Uneven((0, 1), (1, 2)).one), tuple)
        self.assertIs(type(Uneven((0, 1), (1, 2)).other), tuple)
        self.assertIs(type(Ring([0]).way), list)


class Copied(unittest.TestCase):

    def test_ballots_keep_nothing_handed_in(self):
        order = [0, 1]
        ballots = [(order, 3)]
        answer = Ballots(ballots)
        order.reverse()
        ballots.append(([1, 0], 1))
        self.assertEqual(answer.ballots, [([0, 1], 3)])
        self.assertIs(answer.shows([[0, 3], [-3, 0]]), True)

    def test_changing_the_field_changes_nothing_handed_in(self):
        order = [0, 1]
        ballots = [(order, 3)]
        answer = Ballots(ballots)
        answer.ballots[0][0].reverse()
        answer.ballots.append(([1, 0], 1))
        self.assertEqual(order, [0, 1])
        self.assertEqual(ballots, [([0, 1], 3)])

    def test_one_order_handed_in_twice_becomes_two(self):
        order = [0, 1]
        answer = Ballots([(order, 3), (order, 1)])
        answer.ballots[0][0].reverse()
        self.assertEqual(answer.ballots, [([1, 0], 3), ([0, 1], 1)])

    def test_two_answers_share_nothing(self):
        ballots = [([0, 1], 3)]
        one, other = Ballots(ballots), Ballots(ballots)
        one.ballots[0][0].reverse()
        one.ballots.clear()
        self.assertEqual(other.ballots, [([0, 1], 3)])
        third = Ballots(other.ballots)
        third.ballots[0][0].reverse()
        self.assertEqual(other.ballots, [([0, 1], 3)])

    def test_a_ring_keeps_nothing_handed_in(self):
        way = [0, 1, 2]
        answer = Ring(way)
        way.reverse()
        self.assertEqual(answer.way, [0, 1, 2])
        answer.way.append(5)
        self.assertEqual(way, [2, 1, 0])

    def test_lists_in_the_place_of_pairs_and_numbers_are_copied_too(self):
        one, other, who, within = [0, 1], [1, 2], [0], [([0], 1)]
        uneven, unbeaten, pair = Uneven(one, other), Unbeaten(who), Uneven(within, (within, 1))
        for handed in (one, other, who, within[0][0], within):
            handed.append(9)
        self.assertEqual((uneven.one, uneven.other), ([0, 1], [1, 2]))
        self.assertEqual(unbeaten.who, [0])
        self.assertEqual((pair.one, pair.other), ([([0], 1)], ([([0], 1)], 1)))

    def test_shows_changes_neither_the_fields_nor_the_table(self):
        table = copy.deepcopy(RING_OF_THREE)
        held = [
            Ballots([([0, 1, 2], 1), ([1, 2, 0], 1), ([2, 0, 1], 1)]), Ballots([([0, 1, 2], 1)]),
            Uneven((0, 1), (1, 2)), Unbeaten(1), Ring([0, 1, 2]), Ring([2, 1, 0]),
        ]
        for answer in held:
            before = copy.deepcopy(vars(answer))
            first = answer.shows(table)
            self.assertEqual(vars(answer), before)
            self.assertEqual(table, RING_OF_THREE)
            self.assertIs(answer.shows(table), first)

    def test_shows_keeps_no_table(self):
        table = [[0, 1], [-1, 0]]
        answer = Unbeaten(0)
        self.assertIs(answer.shows(table), True)
        table[0][1], table[1][0] = -1, 1
        self.assertIs(answer.shows(table), False)
        self.assertEqual(vars(answer), {"who": 0})


class BallotsShow(ShownCase):

    ballots = [([2, 0, 1], 4), ([0, 1, 2], 1), ([1, 2, 0], 2)]
    table = [[0, 3, -5], [-3, 0, -1], [5, 1, 0]]

    def test_ballots_whose_table_it_is(self):
        self.shown(Ballots(self.ballots), self.table)
        self.shown(Ballots(self.ballots[::-1]), self.table)

    def test_one_order_in_several_ballots(self):
        self.shown(Ballots([([2, 0, 1], 1), ([2, 0, 1], 3)] + self.ballots[1:]), self.table)

    def test_other_ballots_of_the_same_table(self):
        self.shown(Ballots(self.ballots + [([0, 1, 2], 6), ([2, 1, 0], 6)]), self.table)

    def test_one_left_out(self):
        for at in range(3):
            self.unshown(Ballots(self.ballots[:at] + self.ballots[at + 1:]), self.table)

    def test_one_twice(self):
        for at in range(3):
            self.unshown(Ballots(self.ballots + [self.ballots[at]]), self.table)

    def test_one_more_or_less_of_one(self):
        for at in range(3):
            order, many = self.ballots[at]
            for other in (many + 1, many - 1):
                self.unshown(Ballots(self.ballots[:at] + [(order, other)] + self.ballots[at + 1:]), self.table)

    def test_each_number_counts(self):
        for one, other in ((0, 1), (0, 2), (1, 2)):
            table = copy.deepcopy(self.table)
            table[one][other] += 2
            table[other][one] -= 2
            self.unshown(Ballots(self.ballots), table)

    def test_the_opposite_table(self):
        self.unshown(Ballots(self.ballots), [[-number for number in row] for row in self.table])

    def test_no_ballots(self):
        self.shown(Ballots([]), [[0]])
        self.shown(Ballots([]), ALL_EVEN)
        self.shown(Ballots([]), [[0] * 20 for row in range(20)])
        self.unshown(Ballots([]), self.table)

    def test_one_candidate(self):
        self.shown(Ballots([([0], 1)]), [[0]])
        self.shown(Ballots([([0], 5), ([0], GREAT)]), [[0]])
        for order in ([], [1], [-1], [0, 0], [0, 1]):
            self.unshown(Ballots([(order, 1)]), [[0]])

    def test_twenty_candidates(self):
        self.shown(Ballots([(list(range(20)), 1)]), TWENTY)
        self.unshown(Ballots([(list(range(19, -1, -1)), 1)]), TWENTY)
        self.unshown(Ballots([(list(range(19)), 1)]), TWENTY)
        self.unshown(Ballots([(list(range(21)), 1)]), TWENTY)

    def test_very_great_numbers(self):
        self.shown(Ballots([([1, 0], GREAT), ([0, 1], 1)]), [[0, 1 - GREAT], [GREAT - 1, 0]])
        self.unshown(Ballots([([1, 0], GREAT)]), [[0, 1 - GREAT], [GREAT - 1, 0]])

    def test_counts_below_one_are_no_ballots(self):
        self.unshown(Ballots([([0, 1], 0)]), [[0, 0], [0, 0]])
        self.unshown(Ballots([([0, 1], -1)]), [[0, -1], [1, 0]])
        self.unshown(Ballots([([0, 1], 2), ([1, 0], -1)]), [[0, 3], [-3, 0]])
        self.unshown(Ballots([([0], 0)]), [[0]])
        self.unshown(Ballots([([0], -GREAT)]), [[0]])

    def test_orders_of_more_or_less_candidates(self):
        self.unshown(Ballots([([0, 1], 1)]), [[0, 1, 1], [-1, 0, 1], [-1, -1, 0]])
        self.unshown(Ballots([([0, 1, 2], 1)]), [[0, 1], [-1, 0]])
        self.unshown(Ballots([([0, 1, 2], 1), ([2, 1, 0], 1)]), [[0, 0], [0, 0]])

    def test_orders_that_are_none(self):
        for order in ([0, 0], [1, 1], [], [0], [0, -1], [1, -2], [-2, -1], [0, 2], [0, GREAT], [0, 1, 1], [0, 1, 0]):
            for table in ([[0, 1], [-1, 0]], [[0, -1], [1, 0]], [[0, 0], [0, 0]]):
                self.unshown(Ballots([(order, 1)]), table)

    def test_true_and_false_are_no_numbers(self):
        self.unshown(Ballots([([0, 1], True)]), [[0, 1], [-1, 0]])
        self.unshown(Ballots([([False, True], 1)]), [[0, 1], [-1, 0]])
        self.unshown(Ballots([([0, True], 1)]), [[0, 1], [-1, 0]])
        self.unshown(Ballots([([0, 1], False)]), [[0, 0], [0, 0]])
        self.unshown(Ballots([([False], 1)]), [[0]])

    def test_fields_of_another_kind(self):
        for field in (0, -1, 1, (), (1, 0), [0], [0, 1], ([0, 1], 1), [[0, 1], 1], [[[0, 1], 1]], [((0, 1), 1)],
                      [([0, 1], 1, 1)], [([0, 1],)], [(1, [0, 1])], (([0, 1], 1),), [([0, 1], [1])], [([[0], [1]], 1)]):
            with self.subTest(field=field):
                self.unshown(Ballots(field), [[0, 1], [-1, 0]])

    def test_fields_as_they_stand_when_asked(self):
        answer = Ballots([([0, 1], 1)])
        self.shown(answer, [[0, 1], [-1, 0]])
        answer.ballots[0][0].reverse()
        self.unshown(answer, [[0, 1], [-1, 0]])
        self.shown(answer, [[0, -1], [1, 0]])
        answer.ballots.append(([0, 1], 3))
        self.shown(answer, [[0, 2], [-2, 0]])
        answer.ballots = []
        self.shown(answer, [[0, 0], [0, 0]])
        answer.ballots = [([0, 1], 0)]
        self.unshown(answer, [[0, 0], [0, 0]])

    def test_each_counted_table_is_shown_by_its_ballots_only(self):
        orders = [list(order) for order in itertools.permutations(range(3))]
        every = [[(one, 1), (other, 2)] for one in orders for other in orders]
        for ballots in every:
            table = counted(3, ballots)
            for other in every:
                self.assertIs(Ballots(other).shows(table), counted(3, other) == table)


class UnevenShows(ShownCase):

    table = [[0, 2, -3], [-2, 0, -4], [3, 4, 0]]

    def test_one_even_one_odd_in_either_turn(self):
        self.shown(Uneven((0, 1), (0, 2)), self.table)
        self.shown(Uneven((0, 2), (0, 1)), self.table)

    def test_each_pair_in_either_turn(self):
        for one in ((0, 1), (1, 0), (1, 2), (2, 1)):
            for other in ((0, 2), (2, 0)):
                self.shown(Uneven(one, other), self.table)
                self.shown(Uneven(other, one), self.table)

    def test_both_even_or_both_odd(self):
        self.unshown(Uneven((0, 1), (1, 2)), self.table)
        self.unshown(Uneven((0, 1), (2, 1)), self.table)
        self.unshown(Uneven((0, 1), (1, 2)), RING_OF_THREE)
        self.unshown(Uneven((0, 1), (2, 1)), RING_OF_THREE)

    def test_pairs_that_are_the_same(self):
        for pair in itertools.product(range(3), repeat=2):
            self.unshown(Uneven(pair, pair), self.table)
            self.unshown(Uneven(pair, pair[::-1]), self.table)

    def test_a_pair_of_one_candidate(self):
        for who in range(3):
            self.unshown(Uneven((who, who), (0, 2)), self.table)
            self.unshown(Uneven((0, 2), (who, who)), self.table)
        self.unshown(Uneven((0, 0), (0, 1)), RING_OF_THREE)

    def test_beyond_the_table(self):
        for pair in ((0, 3), (3, 0), (3, 4), (0, -1), (-1, 0), (-1, -3), (0, GREAT), (-GREAT, 0), (1, -1), (-2, 2)):
            for good in ((0, 1), (0, 2)):
                with self.subTest(pair=pair, good=good):
                    self.unshown(Uneven(pair, good), self.table)
                    self.unshown(Uneven(good, pair), self.table)

    def test_one_and_two_candidates(self):
        self.unshown(Uneven((0, 0), (0, 0)), [[0]])
        self.unshown(Uneven((0, 1), (1, 0)), [[0]])
        self.unshown(Uneven((0, 1), (1, 0)), [[0, 1], [-1, 0]])
        self.unshown(Uneven((0, 1), (0, 0)), [[0, 1], [-1, 0]])

    def test_twenty_candidates(self):
        self.shown(Uneven((18, 19), (19, 1)), TWENTY_IN_RING)
        self.unshown(Uneven((18, 19), (19, 0)), TWENTY_IN_RING)
        self.unshown(Uneven((18, 19), (19, 20)), TWENTY_IN_RING)

    def test_very_great_numbers(self):
        table = [[0, GREAT, -GREAT - 1], [-GREAT, 0, 0], [GREAT + 1, 0, 0]]
        self.shown(Uneven((0, 1), (0, 2)), table)
        self.shown(Uneven((2, 0), (1, 2)), table)
        self.unshown(Uneven((0, 1), (1, 2)), table)

    def test_true_and_false_are_no_numbers(self):
        self.unshown(Uneven((False, 1), (0, 2)), self.table)
        self.unshown(Uneven((0, True), (0, 2)), self.table)
        self.unshown(Uneven((0, 2), (True, 0)), self.table)

    def test_fields_of_another_kind(self):
        for field in (0, 1, [], (), [0, 1], [1, 0], (0,), (0, 1, 2), (0, 1, 1), ([0], [1]), ([0], 1), [(0, 1)],
                      [([0], 1)], ((0, 1), (0, 1))):
            with self.subTest(field=field):
                self.unshown(Uneven(field, (0, 2)), self.table)
                self.unshown(Uneven((0, 2), field), self.table)

    def test_fields_as_they_stand_when_asked(self):
        answer = Uneven((0, 1), (0, 2))
        answer.other = (1, 2)
        self.unshown(answer, self.table)
        answer.one = (2, 0)
        self.shown(answer, self.table)
        answer.one = [2, 0]
        self.unshown(answer, self.table)
        answer.one = (2, -3)
        self.unshown(answer, self.table)

    def test_small_tables_against_the_words(self):
        pairs = list(itertools.product(range(-1, 4), repeat=2))
        for table in tables_of(3, (-2, -1, 0, 3)):
            even = {(a, b) for a in range(3) for b in range(3) if a != b and table[a][b] in (-2, 0, 2)}
            odd = {(a, b) for a in range(3) for b in range(3) if a != b and table[a][b] in (-3, -1, 1, 3)}
            for one in pairs:
                for other in pairs:
                    so = one in even and other in odd or one in odd and other in even
                    self.assertIs(Uneven(one, other).shows(table), so, (table, one, other))


class UnbeatenShows(ShownCase):

    def test_one_who_is_ahead_of_all(self):
        self.shown(Unbeaten(0), FIRST_IS_AHEAD)
        self.unshown(Unbeaten(1), FIRST_IS_AHEAD)
        self.unshown(Unbeaten(2), FIRST_IS_AHEAD)

    def test_level_with_others(self):
        for who in range(3):
            self.shown(Unbeaten(who), ALL_EVEN)
        table = [[0, 0, 1], [0, 0, -1], [-1, 1, 0]]
        self.shown(Unbeaten(0), table)
        self.unshown(Unbeaten(1), table)
        self.unshown(Unbeaten(2), table)

    def test_nobody(self):
        for who in range(3):
            self.unshown(Unbeaten(who), RING_OF_THREE)

    def test_beyond_the_table(self):
        for who in (3, 4, -1, -2, -3, -4, GREAT, -GREAT):
            self.unshown(Unbeaten(who), ALL_EVEN)
            self.unshown(Unbeaten(who), FIRST_IS_AHEAD)

    def test_one_candidate(self):
        self.shown(Unbeaten(0), [[0]])
        self.unshown(Unbeaten(1), [[0]])
        self.unshown(Unbeaten(-1), [[0]])

    def test_twenty_candidates(self):
        self.shown(Unbeaten(0), TWENTY)
        for who in range(1, 21):
            self.unshown(Unbeaten(who), TWENTY)

    def test_very_great_numbers(self):
        self.shown(Unbeaten(1), [[0, -GREAT], [GREAT, 0]])
        self.unshown(Unbeaten(0), [[0, -GREAT], [GREAT, 0]])

    def test_true_and_false_are_no_numbers(self):
        self.unshown(Unbeaten(False), [[0]])
        self.unshown(Unbeaten(False), ALL_EVEN)
        self.unshown(Unbeaten(True), ALL_EVEN)

    def test_fields_of_another_kind(self):
        for field in ([], (), [0], (0,), (0, 0), [0, 1], [([0], 1)], [[0]]):
            with self.subTest(field=field):
                self.unshown(Unbeaten(field), ALL_EVEN)

    def test_fields_as_they_stand_when_asked(self):
        answer = Unbeaten(0)
        answer.who = 1
        self.unshown(answer, FIRST_IS_AHEAD)
        answer.who = -3
        self.unshown(answer, FIRST_IS_AHEAD)
        answer.who = 0
        self.shown(answer, FIRST_IS_AHEAD)

    def test_small_tables_against_the_words(self):
        for table in tables_of(3, (-2, -1, 0, 1, 2)):
            for who in range(-4, 5):
                so = 0 <= who < 3 and not any(table[other][who] > 0 for other in range(3) if other != who)
                self.assertIs(Unbeaten(who).shows(table), so, (table, who))


class RingShows(ShownCase):

    def test_each_ahead_of_the_next(self):
        self.shown(Ring([0, 1, 2]), RING_OF_THREE)
        self.shown(Ring([1, 2, 0]), RING_OF_THREE)
        self.shown(Ring([2, 0, 1]), RING_OF_THREE)

    def test_the_wrong_way_round(self):
        self.unshown(Ring([2, 1, 0]), RING_OF_THREE)
        self.unshown(Ring([0, 2, 1]), RING_OF_THREE)

    def test_the_last_one_not_ahead_of_the_first(self):
        self.unshown(Ring([0, 1, 2]), FIRST_IS_AHEAD)

    def test_level_is_not_ahead(self):
        self.unshown(Ring([0, 1, 2]), ALL_EVEN)
        self.unshown(Ring([0, 1, 2]), [[0, 1, 0], [-1, 0, 1], [0, -1, 0]])
        self.unshown(Ring([0, 1, 2]), [[0, 0, -1], [0, 0, 1], [1, -1, 0]])

    def test_also_where_somebody_is_unbeaten(self):
        table = [[0, 1, -1, -5], [-1, 0, 1, -5], [1, -1, 0, -5], [5, 5, 5, 0]]
        self.shown(Unbeaten(3), table)
        self.shown(Ring([0, 1, 2]), table)
        self.unshown(Ring([0, 1, 2, 3]), table)

    def test_of_none_one_and_two(self):
        for table in ([[0]], [[0, 1], [-1, 0]], [[0, -1], [1, 0]], RING_OF_THREE, ALL_EVEN):
            self.unshown(Ring([]), table)
            self.unshown(Ring([0]), table)
            self.unshown(Ring([0, 1]), table)
            self.unshown(Ring([1, 0]), table)

    def test_one_candidate_twice(self):
        self.unshown(Ring([0, 1, 2, 0, 1, 2]), RING_OF_THREE)
        self.unshown(Ring([0, 1, 2, 0]), RING_OF_THREE)
        self.unshown(Ring([0, 0, 1, 2]), RING_OF_THREE)
        # Two rings that meet in 0: each step is ahead, yet 0 stands twice.
        table = [[0, 1, -1, 1, -1], [-1, 0, 1, 0, 0], [1, -1, 0, 0, 0], [-1, 0, 0, 0, 1], [1, 0, 0, -1, 0]]
        self.shown(Ring([0, 1, 2]), table)
        self.shown(Ring([0, 3, 4]), table)
        self.unshown(Ring([0, 1, 2, 0, 3, 4]), table)

    def test_beyond_the_table(self):
        for way in ([0, 1, 3], [3, 0, 1], [0, 1, -1], [-3, -2, -1], [-3, 1, 2], [0, 1, 2, 3], [0, 1, GREAT],
                    [0, 1, -GREAT], [-1, 0, 1]):
            self.unshown(Ring(way), RING_OF_THREE)

    def test_twenty_candidates(self):
        way = list(range(20))
        self.shown(Ring(way), TWENTY_IN_RING)
        self.shown(Ring(way[7:] + way[:7]), TWENTY_IN_RING)
        self.unshown(Ring(way[::-1]), TWENTY_IN_RING)
        self.unshown(Ring(way[1:]), TWENTY_IN_RING)
        self.unshown(Ring(way + [20]), TWENTY_IN_RING)
        self.unshown(Ring(way), TWENTY)

    def test_very_great_numbers(self):
        table = [[0, GREAT, -1], [-GREAT, 0, GREAT], [1, -GREAT, 0]]
        self.shown(Ring([0, 1, 2]), table)
        self.unshown(Ring([0, 2, 1]), table)

    def test_true_and_false_are_no_numbers(self):
        self.unshown(Ring([0, True, 2]), RING_OF_THREE)
        self.unshown(Ring([False, 1, 2]), RING_OF_THREE)

    def test_fields_of_another_kind(self):
        for field in (0, 1, -1, (), (0, 1), (0, 1, 2), [[0], [1], [2]], [0, 1, [2]], [(0, 1), (1, 2)], [([0, 1], 2)]):
            with self.subTest(field=field):
                self.unshown(Ring(field), RING_OF_THREE)

    def test_fields_as_they_stand_when_asked(self):
        answer = Ring([0, 1, 2])
        answer.way.reverse()
        self.unshown(answer, RING_OF_THREE)
        answer.way = [1, 2, 0]
        self.shown(answer, RING_OF_THREE)
        answer.way.append(1)
        self.unshown(answer, RING_OF_THREE)
        answer.way.clear()
        self.unshown(answer, RING_OF_THREE)

    def test_small_tables_against_the_words(self):
        ways = [list(way) for length in range(5) for way in itertools.product(range(-1, 4), repeat=length)]
        for table in tables_of(3, (-2, 0, 1)):
            for way in ways:
                so = len(way) > 0 and all(way.count(who) == 1 and who in (0, 1, 2) for who in way)
                for at in range(len(way)):
                    so = so and table[way[at - 1]][way[at]] > 0
                self.assertIs(Ring(way).shows(table), so, (table, way))


if __name__ == "__main__":
    unittest.main()
