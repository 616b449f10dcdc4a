"""apart: how far one item's true size is above another's."""

import unittest

from tests.helper import MOST, WORD, apart, ask, check, everything, item, known, last, read, tool

TWO = [item("25"), item("25")]


class Apart(unittest.TestCase):

    def assert_apart(self, calls, least, most):
        """Of items 0 and 1, and of the same turned round."""
        self.assertEqual(ask(calls + [apart(0, 1), apart(1, 0)])[-2:], [[0, least, most], [0, -most, -least]])

    def test_the_same_item(self):
        calls = TWO + [apart(0, 0), tool(0, -50, 50, 2, 1), read(0, 0, 100), read(0, 1, 100), apart(0, 0), apart(1, 1)]
        found = ask(calls)
        self.assertEqual([found[2], found[6], found[7]], [[0, 0, 0]] * 3)

    def test_items_that_nobody_measured(self):
        self.assert_apart(TWO, 1 - MOST, MOST - 1)

    def test_one_that_nobody_measured(self):
        exact = TWO + [tool(0, 0, 0, 0, 0)]
        self.assert_apart(exact + [read(0, 0, 100)], 1 - 100, MOST - 100)
        self.assert_apart(exact + [read(0, 1, 100)], 100 - MOST, 100 - 1)

    def test_items_that_no_tool_joins(self):
        calls = TWO + [tool(0, -3, 7, 2, 0), tool(0, -1, 1, 0, 0), read(0, 0, 100), read(1, 1, 150)]
        self.assertEqual(ask(calls + [known(0), known(1)])[-2:], [[0, 91, 105], [0, 149, 151]])
        self.assert_apart(calls, 149 - 105, 151 - 91)

    def test_items_that_one_instrument_read(self):
        for e in (0, 3):
            for d in (0, 4):
                calls = TWO + [tool(0, -5000, 5000, e, d), read(0, 0, 10000), read(0, 1, 10070)]
                self.assert_apart(calls, 70 - 2 * e - d, 70 + 2 * e + d)

    def test_with_uses_between(self):
        calls = TWO + [item("25"), tool(0, -5000, 5000, 1, 4)]
        calls = calls + [read(0, 1, 10000), check(0, 0, 9000, 5), read(0, 2, 9000), read(0, 0, 10070)]
        self.assert_apart(calls, -70 - 2 - 12, -70 + 2 + 12)

    def test_the_narrower_of_what_joins_and_what_is_known(self):
        # The instrument tells 55 to 145; the bounds, 95 to 105 and 190 to 210, tell 85 to 115.
        calls = TWO + [tool(0, -50, 50, 20, 5), tool(0, -5, 5, 0, 0), tool(0, -10, 10, 0, 0)]
        calls = calls + [read(0, 0, 100), read(0, 1, 200)]
        self.assert_apart(calls, 55, 145)
        self.assert_apart(calls + [read(1, 0, 100), read(2, 1, 200)], 85, 115)

    def test_items_that_a_gauge_joins(self):
        # The plug went into item 0 and not into item 1, at the most d smaller or larger in between.
        for d in (0, 3):
            calls = TWO + [tool(1, 1, 999, 0, d), read(0, 0, 1), read(0, 1, 0)]
            self.assert_apart(calls, 1 - MOST, -1)
            calls = TWO + [tool(1, 1, 999, 0, d), read(0, 1, 0), read(0, 0, 1)]
            self.assert_apart(calls, 1 - MOST, d - 1)
            calls = TWO + [tool(2, 1, 999, 0, d), read(0, 0, 0), read(0, 1, 1)]
            self.assert_apart(calls, 1 - MOST, -1)
            calls = TWO + [tool(2, 1, 999, 0, d), read(0, 1, 1), read(0, 0, 0)]
            self.assert_apart(calls, 1 - MOST, d - 1)

    def test_through_a_third_item(self):
        calls = TWO + [item("25"), tool(0, -5000, 5000, 0, 0), tool(0, -5000, 5000, 1, 0)]
        calls = calls + [read(0, 0, 10000), read(0, 2, 10030), read(1, 2, 20000), read(1, 1, 20040)]
        self.assert_apart(calls, 70 - 2, 70 + 2)

    def test_by_a_later_use(self):
        calls = TWO + [tool(0, -50, 50, 0, 0), tool(0, -50, 50, 0, 0), read(0, 0, 1000), read(1, 1, 1000)]
        self.assert_apart(calls, -100, 100)
        self.assert_apart(calls + [check(0, 500, 500, 510)], -40, 60)
        self.assert_apart(calls + [check(0, 500, 500, 510), check(1, 500, 501, 490)], 20, 21)

    def test_at_the_ends_of_true_sizes(self):
        calls = TWO + [tool(0, 0, 0, 0, 0), read(0, 0, 1), read(0, 1, MOST)]
        self.assert_apart(calls, MOST - 1, MOST - 1)

    def test_apart_changes_nothing(self):
        calls = TWO + [tool(0, -50, 50, 1, 2), read(0, 0, 100)]
        tail = everything(2, 1) + [read(0, 1, 99), known(1), apart(0, 1)]
        asked = [apart(0, 1), apart(1, 0), apart(0, 0), apart(2, 0), apart(0, 2)]
        found = ask(calls + asked + tail)
        self.assertEqual(found[:4] + found[9:], ask(calls + tail))

    def test_no_such(self):
        self.assertEqual(last([apart(0, 0)]), [-4])
        for i, j in ((2, 0), (0, 2), (2, 2), (2, 1), (1, 2), (WORD, 0), (0, WORD), (WORD, WORD)):
            self.assertEqual(last(TWO + [apart(i, j)]), [-4], (i, j))
        self.assertEqual(last(TWO + [apart(0, 1)]), [0, 1 - MOST, MOST - 1])


if __name__ == "__main__":
    unittest.main()
