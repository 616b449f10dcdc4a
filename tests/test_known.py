"""known: bounds by all that was read, of the item, of others, and later."""

import unittest

from tests.helper import MOST, WORD, ask, check, item, known, last, read, tool


class Known(unittest.TestCase):

    def test_nobody_measured_it(self):
        for text in ("25", "25 +-0.01", "25 +0.02 +0.01", "25 h7"):
            self.assertEqual(last([item(text), known(0)]), [0, 1, MOST])
        calls = [item("25"), item("25"), tool(0, 0, 0, 0, 0), read(0, 0, 9), known(1), known(0)]
        self.assertEqual(ask(calls)[4:], [[0, 1, MOST], [0, 9, 9]])

    def test_no_such(self):
        self.assertEqual(last([known(0)]), [-4])
        self.assertEqual(last([item("25"), known(1)]), [-4])
        self.assertEqual(last([item("25"), known(WORD)]), [-4])

    def test_own_readings(self):
        calls = [item("25"), tool(0, -10, 10, 5, 0), tool(0, -3, 3, 1, 0)]
        calls = calls + [read(0, 0, 100), known(0), read(0, 0, 106), known(0), read(1, 0, 92), known(0)]
        self.assertEqual(ask(calls)[3:], [[1], [0, 85, 115], [2], [0, 91, 115], [3], [0, 91, 96]])

    def test_what_the_same_instrument_said_of_others(self):
        # An item of 500 surely, read as 512, tells the nought: 12, and so that of the use before.
        calls = [item("25"), item("25"), tool(0, -50, 50, 0, 2), tool(0, 0, 0, 0, 0)]
        calls = calls + [read(0, 0, 100), known(0), read(1, 1, 500), read(0, 1, 512), known(0), known(1)]
        self.assertEqual(ask(calls)[4:], [[1], [0, 50, 150], [2], [3], [0, 86, 90], [0, 500, 500]])

    def test_the_end_of_true_sizes_tells_of_others(self):
        calls = [item("25"), item("25"), tool(0, -50, 50, 0, 0), read(0, 0, 100), read(0, 1, 1), known(0), known(1)]
        self.assertEqual(ask(calls)[3:], [[1], [2], [0, 100, 150], [0, 1, 51]])

    def test_a_later_check(self):
        calls = [item("25"), tool(0, -50, 50, 1, 2), read(0, 0, 100), known(0), check(0, 70, 70, 80), known(0)]
        self.assertEqual(ask(calls)[2:], [[1], [0, 49, 151], [2], [0, 100 - 13 - 1, 100 - 7 + 1]])

    def test_a_later_check_of_another_tool(self):
        # The ring tells of item 1, that of the instrument, and that of item 0.
        calls = [item("25"), item("25"), tool(0, -50, 50, 0, 0), tool(2, 0, 1000, 0, 0)]
        calls = calls + [read(0, 0, 100), read(0, 1, 200), read(1, 1, 1), known(0), check(1, 170, 180, 0), known(0)]
        self.assertEqual(ask(calls)[4:], [[1], [2], [3], [0, 50, 150], [4], [0, 50, 80]])

    def test_items_that_come_behind_uses(self):
        calls = [item("25"), tool(0, 0, 5, 0, 0), read(0, 0, 100), item("25"), known(0), known(1), read(0, 1, 200)]
        calls = calls + [tool(2, 0, 197, 0, 0), read(1, 1, 1), known(0), known(1), item("25"), known(0), known(2)]
        self.assertEqual(ask(calls)[3:], [
            [1], [0, 95, 100], [0, 1, MOST], [2], [1], [3], [0, 95, 97], [0, 195, 197], [2], [0, 95, 97],
            [0, 1, MOST]])

    def test_known_changes_nothing(self):
        calls = [item("25"), tool(0, -5, 5, 0, 0), read(0, 0, 100)]
        self.assertEqual(ask(calls + [known(0)] * 3)[3:], [[0, 95, 105]] * 3)
        self.assertEqual(last(calls + [known(0), known(7), read(0, 0, 100)]), [2])

    def test_chain_through_many_items(self):
        # Each instrument reads one item and the one behind it without erring: each is 10 above the one ahead.
        calls = [item("25")] * 9
        for number in range(8):
            calls = calls + [tool(0, -1000, 1000, 0, 0), read(number, number, 1000), read(number, number + 1, 1010)]
        calls = calls + [known(0), known(8)]
        self.assertEqual(ask(calls)[-2:], [[0, 1, 2000 - 70], [0, 81, 2010]])

    def test_the_last_use_of_a_full_book_tells_of_the_first(self):
        # 30 uses between tell nothing by themselves, but at each of the 31 steps the nought may move by 1.
        calls = [item("25"), tool(0, -5000, 5000, 0, 1), read(0, 0, 9000)] + [check(0, -9999, 9999, 0)] * 30
        calls = calls + [known(0), check(0, 100, 100, 110), known(0)]
        self.assertEqual(ask(calls)[-3:], [[0, 4000, 14000], [32], [0, 9000 - 10 - 31, 9000 - 10 + 31]])
        other = [item("25"), tool(0, -5000, 5000, 0, 1), check(0, 100, 100, 110)] + [check(0, -9999, 9999, 0)] * 30
        self.assertEqual(last(other + [read(0, 0, 9000), known(0)]), [0, 9000 - 10 - 31, 9000 - 10 + 31])


if __name__ == "__main__":
    unittest.main()
