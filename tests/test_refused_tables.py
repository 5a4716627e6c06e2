import copy
import unittest

from headcounts.errors import BadTable, CountError
from headcounts.making import told
from headcounts.winning import foremost, order, strengths, tops
from tests.samples import GREAT, Unfriendly, WRONG_TABLES

ASKED = (told, foremost, tops, strengths, order)


class RefusedTables(unittest.TestCase):

    def refused(self, table):
        for ask in ASKED:
            with self.subTest(ask.__name__):
                with self.assertRaises(BadTable):
                    ask(table)

    def test_what_is_no_table(self):
        for at, table in enumerate(WRONG_TABLES):
            with self.subTest(at):
                self.refused(table)

    def test_one_wrong_number_at_each_place(self):
        good = [[0, 3, -5], [-3, 0, 7], [5, -7, 0]]
        for row in range(3):
            for place in range(3):
                for wrong in (good[row][place] + 1, good[row][place] - 1, good[row][place] + GREAT, None, True, False,
                              "0", float(good[row][place]), [], (0,)):
                    table = copy.deepcopy(good)
                    table[row][place] = wrong
                    with self.subTest(row=row, place=place):
                        self.refused(table)

    def test_one_wrong_row_at_each_place(self):
        good = [[0, 3, -5], [-3, 0, 7], [5, -7, 0]]
        for row in range(3):
            for wrong in (tuple(good[row]), good[row][:2], good[row] + [0], [], None, 0, "000", good[row - 1]):
                table = copy.deepcopy(good)
                table[row] = wrong
                with self.subTest(row=row, wrong=wrong):
                    self.refused(table)

    def test_a_row_too_few_or_too_many(self):
        good = [[0, 3, -5], [-3, 0, 7], [5, -7, 0]]
        self.refused(good[:2])
        self.refused(good + [[0, 0, 0]])
        self.refused(tuple(good))

    def test_unfriendly_ones(self):
        for table in (Unfriendly(), [Unfriendly()], [[Unfriendly()]], [[0, Unfriendly()], [0, 0]],
                      [[0, 0], Unfriendly()], [[0, 0], [Unfriendly(), 0]]):
            self.refused(table)

    def test_a_list_within_itself(self):
        table = []
        table.append(table)
        self.refused(table)
        row = [0]
        row.append(row)
        self.refused([row, [0, 0]])

    def test_twenty_are_not_refused_and_21_are(self):
        for candidates in range(1, 23):
            table = [[0] * candidates for row in range(candidates)]
            if candidates > 20:
                self.refused(table)
                continue
            for ask in ASKED:
                ask(table)

    def test_what_is_refused_is_unchanged(self):
        table = [[0, 3, -5], [-3, 0, 7], [5, 7, 0]]
        self.refused(table)
        self.assertEqual(table, [[0, 3, -5], [-3, 0, 7], [5, 7, 0]])

    def test_it_is_a_count_error(self):
        for ask in ASKED:
            with self.assertRaises(CountError):
                ask([])

    def test_the_argument_has_its_name(self):
        for ask in ASKED:
            ask(table=[[0]])

    def test_one_list_as_several_rows_is_a_table(self):
        row = [0, 0, 0]
        for ask in ASKED:
            ask([row, row, row])
        self.assertEqual(row, [0, 0, 0])
        told_rows = strengths([row, row, row])
        told_rows[0][1] = 5
        self.assertEqual(told_rows[1:], [[0, 0, 0], [0, 0, 0]])


if __name__ == "__main__":
    unittest.main()
