"""tool: each kind, its bounds, the refusals and their order."""

import unittest

from tests.helper import FAR, LIMIT, WORD, ask, item, last, read, tool

ERROR = 1048576


class Tools(unittest.TestCase):

    def assert_tool(self, *numbers):
        self.assertEqual(last([tool(*numbers)]), [0], numbers)

    def assert_none(self, *numbers):
        self.assertEqual(last([tool(*numbers)]), [-3], numbers)

    def test_numbered_from_0(self):
        self.assertEqual(ask([tool(0, 0, 0, 5, 5), tool(1, 0, 1, 0, 5), tool(2, -1, 0, 0, 0)]), [[0], [1], [2]])

    def test_kinds(self):
        for kind in (0, 1, 2):
            self.assert_tool(kind, 0, 0, 0, 0)
        self.assert_none(3, 0, 0, 0, 0)
        self.assert_none(WORD, 0, 0, 0, 0)

    def test_limits(self):
        for kind in (0, 1, 2):
            self.assert_tool(kind, -LIMIT, LIMIT, 0, 0)
            self.assert_tool(kind, LIMIT, LIMIT, 0, 0)
            self.assert_tool(kind, -LIMIT, -LIMIT, 0, 0)
            self.assert_none(kind, -LIMIT - 1, LIMIT, 0, 0)
            self.assert_none(kind, -LIMIT, LIMIT + 1, 0, 0)
            self.assert_none(kind, -FAR, 0, 0, 0)
            self.assert_none(kind, 0, FAR, 0, 0)
            self.assert_none(kind, LIMIT + 1, LIMIT + 1, 0, 0)
            self.assert_none(kind, -LIMIT - 1, -LIMIT - 1, 0, 0)

    def test_lo_above_hi(self):
        for kind in (0, 1, 2):
            self.assert_tool(kind, 7, 7, 0, 0)
            self.assert_none(kind, 8, 7, 0, 0)

    def test_error(self):
        self.assert_tool(0, 0, 0, ERROR, 0)
        self.assert_none(0, 0, 0, ERROR + 1, 0)
        self.assert_none(0, 0, 0, WORD, 0)
        for kind in (1, 2):
            self.assert_none(kind, 0, 5, 1, 0)
            self.assert_none(kind, 0, 5, ERROR, 0)
            self.assert_none(kind, 0, 5, ERROR + 1, 0)

    def test_drift(self):
        for kind in (0, 1, 2):
            self.assert_tool(kind, 0, 0, 0, ERROR)
            self.assert_none(kind, 0, 0, 0, ERROR + 1)
            self.assert_none(kind, 0, 0, 0, WORD)

    def test_ninth(self):
        self.assertEqual(ask([tool(0, 0, 0, 0, 0)] * 9), [[number] for number in range(8)] + [[-7]])

    def test_order(self):
        full = [tool(0, 0, 0, 0, 0)] * 8
        self.assertEqual(last(full + [tool(3, 0, 0, 0, 0)]), [-3])
        self.assertEqual(last(full + [tool(1, 0, 0, 1, 0)]), [-3])

    def test_refused_tools_are_not_there(self):
        calls = [item("25"), tool(3, 0, 0, 0, 0), read(0, 0, 1), tool(1, 5, 5, 0, 0), read(0, 0, 1)]
        self.assertEqual(ask(calls), [[0], [-3], [-4], [0], [1]])
        full = [item("25")] + [tool(0, 0, 0, 0, 0)] * 9
        self.assertEqual(last(full + [read(8, 0, 5)]), [-4])
        self.assertEqual(last(full + [read(7, 0, 5)]), [1])


if __name__ == "__main__":
    unittest.main()
