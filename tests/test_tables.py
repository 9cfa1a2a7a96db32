"""Tables [6]: what a row tells at all settings, and which row has a table."""

import unittest

from fewjoins.tables import row_with, table_of

WIDE_ROWS = (0, 1, 2, 3, 1024, 2047, 2048, 2049, 2730, 4094, 4095)


def slow_table(many, row):
    """The table by the document's words, setting by setting."""
    table = 0
    for setting in range(2 ** many):
        yes = [given for given in range(many) if row // 2 ** given % 2 and setting // 2 ** given % 2]
        if len(yes) % 2 == 1:
            table += 2 ** setting
    return table


class Tables(unittest.TestCase):
    def test_told_ones(self):
        self.assertEqual(table_of(1, 0), 0)
        self.assertEqual(table_of(1, 1), 0b10)
        self.assertEqual(table_of(2, 1), 0b1010)
        self.assertEqual(table_of(2, 2), 0b1100)
        self.assertEqual(table_of(2, 3), 0b0110)
        self.assertEqual(table_of(3, 7), 0b10010110)

    def test_every_row_of_few_givens(self):
        for many in range(1, 7):
            for row in range(2 ** many):
                self.assertEqual(table_of(many, row), slow_table(many, row), (many, row))

    def test_rows_of_twelve_givens(self):
        for row in WIDE_ROWS:
            self.assertEqual(table_of(12, row), slow_table(12, row), row)

    def test_row_0_tells_0_everywhere(self):
        for many in range(1, 13):
            self.assertEqual(table_of(many, 0), 0)

    def test_the_first_setting_tells_0(self):
        for many in range(1, 13):
            self.assertEqual(table_of(many, 2 ** many - 1) % 2, 0)

    def test_the_last_bit(self):
        for many in range(1, 13):
            last = 2 ** many - 1
            self.assertEqual(table_of(many, 2 ** (many - 1)) >> last, 1)
            self.assertEqual(table_of(many, 2 ** many - 1) >> last, many % 2)

    def test_no_bit_at_or_beyond_the_number_of_settings(self):
        for many in range(1, 13):
            for row in (0, 1, 2 ** many - 1):
                self.assertLess(table_of(many, row), 2 ** 2 ** many)

    def test_the_last_given(self):
        self.assertEqual(table_of(12, 2048), (2 ** 2048 - 1) * 2 ** 2048)

    def test_is_a_whole_number(self):
        for many, row in ((1, 0), (1, 1), (12, 4095)):
            self.assertIs(type(table_of(many, row)), int)

    def test_asked_again_the_same_is_told(self):
        self.assertEqual(table_of(12, 1234), table_of(12, 1234))


class RowsWithTables(unittest.TestCase):
    def test_every_row_of_few_givens_comes_back(self):
        for many in range(1, 9):
            for row in range(2 ** many):
                self.assertEqual(row_with(many, table_of(many, row)), row)

    def test_edges_of_every_width_come_back(self):
        for many in range(1, 13):
            for row in (0, 1, 2 ** (many - 1), 2 ** many - 1):
                self.assertEqual(row_with(many, slow_table(many, row)), row)

    def test_row_0_is_told_as_0_and_not_none(self):
        for many in range(1, 13):
            self.assertEqual(row_with(many, 0), 0)
            self.assertIs(type(row_with(many, 0)), int)

    def test_each_number_of_up_to_three_givens_and_beyond(self):
        for many in range(1, 4):
            tables = {slow_table(many, row): row for row in range(2 ** many)}
            for number in range(2 * 2 ** 2 ** many + 3):
                self.assertEqual(row_with(many, number), tables.get(number), (many, number))

    def test_one_bit_another_one(self):
        for many in range(2, 7):
            for row in range(2 ** many):
                for bit in range(2 ** many):
                    self.assertIsNone(row_with(many, table_of(many, row) ^ (1 << bit)))

    def test_one_bit_another_one_with_one_given(self):
        self.assertIsNone(row_with(1, 0b11))
        self.assertIsNone(row_with(1, 0b01))
        self.assertEqual(row_with(1, 0b00), 0)
        self.assertEqual(row_with(1, 0b10), 1)

    def test_one_bit_another_one_with_twelve_givens(self):
        for row in WIDE_ROWS:
            for bit in (0, 1, 2, 3, 1000, 2047, 2048, 2049, 4094, 4095):
                self.assertIsNone(row_with(12, table_of(12, row) ^ (1 << bit)), (row, bit))

    def test_a_bit_at_or_beyond_the_number_of_settings(self):
        for many in range(1, 13):
            for row in (0, 1, 2 ** many - 1):
                for beyond in (0, 1, 2 ** many, 10000):
                    number = table_of(many, row) | 1 << 2 ** many + beyond
                    self.assertIsNone(row_with(many, number), (many, row, beyond))

    def test_the_table_of_a_row_of_one_given_more(self):
        for many in range(1, 12):
            for row in (1, 2 ** many - 1, 2 ** many, 2 ** many + 1, 2 ** (many + 1) - 1):
                self.assertIsNone(row_with(many, table_of(many + 1, row)), (many, row))

    def test_the_table_of_thirteen_givens(self):
        number = slow_table(12, 1) * (1 + 2 ** 4096)
        self.assertIsNone(row_with(12, number))

    def test_the_turned_table(self):
        for many in range(1, 13):
            turned = table_of(many, 1) ^ 2 ** 2 ** many - 1
            self.assertIsNone(row_with(many, turned))

    def test_asked_again_the_same_is_told(self):
        self.assertEqual([row_with(2, number) for number in range(40)],
                         [row_with(2, number) for number in range(40)])


if __name__ == "__main__":
    unittest.main()
