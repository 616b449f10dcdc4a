"""The document's examples, as far as item, tool, read, check and known make them."""

import unittest

from surebounds.bench import answers
from tests.helper import ask, check, item, known, read, tool

TWO_ITEMS = [item("25 +-0.01"), item("25 +-0.01"), tool(0, -100, 100, 20, 10)]
TWO_READS = TWO_ITEMS + [read(0, 0, 250050), read(0, 1, 250110)]
CHECKED = TWO_READS + [check(0, 250000, 250004, 250060)]
RINGED = CHECKED + [tool(2, 250090, 250095, 0, 1), read(1, 1, 1)]


class Examples(unittest.TestCase):

    def test_items_and_tool_are_numbered_from_0(self):
        self.assertEqual(ask(TWO_ITEMS), [[0], [1], [0]])

    def test_first_reading(self):
        calls = TWO_ITEMS + [read(0, 0, 250050), known(0)]
        self.assertEqual(ask(calls)[3:], [[1], [0, 249930, 250170]])

    def test_second_reading(self):
        calls = TWO_READS + [known(1)]
        self.assertEqual(ask(calls)[4:], [[2], [0, 249980, 250240]])

    def test_a_later_check_narrows_both(self):
        calls = CHECKED + [known(0), known(1)]
        self.assertEqual(ask(calls)[5:], [[3], [0, 249930, 250054], [0, 250000, 250104]])

    def test_a_reading_that_cannot_be(self):
        calls = CHECKED + [read(0, 0, 250300), known(0), known(1)]
        self.assertEqual(ask(calls)[6:], [[-5], [0, 249930, 250054], [0, 250000, 250104]])

    def test_the_most_that_it_shows(self):
        # The item and its first nought come to 250,070 at most, the nought behind the check is 30 above that one.
        self.assertEqual(ask(CHECKED + [read(0, 0, 250070 + 30 + 20)])[6:], [[4]])
        self.assertEqual(ask(CHECKED + [read(0, 0, 250070 + 30 + 21)])[6:], [[-5]])
        self.assertEqual(ask(CHECKED + [read(0, 0, 250054 + 90 + 21)])[6:], [[-5]])

    def test_the_ring_goes(self):
        calls = RINGED + [known(1)]
        self.assertEqual(ask(calls)[6:], [[1], [4], [0, 250000, 250095]])

    def test_bounds_with_the_first_two_uses_alone(self):
        self.assertEqual(ask(TWO_READS + [known(0)])[-1], [0, 249930, 250170])

    def test_refusals(self):
        calls = RINGED + [known(2), read(0, 2, 5), read(1, 0, 2), tool(1, 0, 5, 1, 0)]
        self.assertEqual(ask(calls)[8:], [[-4], [-4], [-3], [-3]])

    def test_an_item_that_nobody_measured(self):
        self.assertEqual(ask([item("25"), known(0)]), [[0], [0, 1, 4294967296]])

    def test_number_by_number(self):
        flat = [number for call in TWO_READS + [known(1), known(2)] for number in call]
        self.assertEqual(answers(flat), [1, 0, 1, 1, 1, 0, 1, 1, 1, 2, 3, 0, 249980, 250240, 1, -4])


if __name__ == "__main__":
    unittest.main()
