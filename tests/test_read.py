"""read: what goes and what doesn't, of each kind of tool; the refusals and their order."""

import unittest

from tests.helper import FAR, LIMIT, MOST, READING, WORD, ask, item, known, last, read, tool

ITEM = [item("25")]


class Instruments(unittest.TestCase):

    def test_bounds_of_one_reading(self):
        calls = ITEM + [tool(0, -3, 7, 2, 0), read(0, 0, 100), known(0)]
        self.assertEqual(ask(calls)[2:], [[1], [0, 100 - 2 - 7, 100 + 2 + 3]])

    def test_drift_between_uses(self):
        calls = ITEM + [tool(0, 0, 0, 0, 4), read(0, 0, 100), read(0, 0, 104), read(0, 0, 100), known(0)]
        self.assertEqual(ask(calls)[2:], [[1], [2], [3], [0, 100, 100]])
        self.assertEqual(ask(ITEM + [tool(0, 0, 0, 0, 4), read(0, 0, 100), read(0, 0, 105)])[2:], [[1], [-5]])
        self.assertEqual(ask(ITEM + [tool(0, 0, 0, 0, 4), read(0, 0, 100), read(0, 0, 95)])[2:], [[1], [-5]])

    def test_drift_is_of_the_tools_own_uses_alone(self):
        calls = ITEM + [tool(0, 0, 0, 0, 4), tool(0, 0, 0, 0, 0), read(0, 0, 100)]
        calls = calls + [read(1, 0, 100)] * 3 + [read(0, 0, 105)]
        self.assertEqual(last(calls), [-5])

    def test_nought_may_leave_its_limits_behind_the_first_use(self):
        calls = ITEM + [tool(0, 0, 0, 0, 1), tool(1, 100, 100, 0, 0), tool(2, 100, 100, 0, 0)]
        calls = calls + [read(1, 0, 1), read(2, 0, 1)]
        self.assertEqual(ask(calls + [read(0, 0, 100), read(0, 0, 101), read(0, 0, 102)])[6:], [[3], [4], [5]])
        self.assertEqual(ask(calls + [read(0, 0, 101)])[6:], [[-5]])

    def test_two_readings_apart_by_the_error(self):
        calls = ITEM + [tool(0, -LIMIT, LIMIT, 3, 0), read(0, 0, 100)]
        self.assertEqual(last(calls + [read(0, 0, 106)]), [2])
        self.assertEqual(last(calls + [read(0, 0, 107)]), [-5])
        self.assertEqual(last(calls + [read(0, 0, 94)]), [2])
        self.assertEqual(last(calls + [read(0, 0, 93)]), [-5])

    def test_true_sizes_end(self):
        exact = ITEM + [tool(0, 0, 0, 0, 0)]
        self.assertEqual(ask(exact + [read(0, 0, 1), known(0)])[2:], [[1], [0, 1, 1]])
        self.assertEqual(ask(exact + [read(0, 0, 0), known(0)])[2:], [[-5], [0, 1, MOST]])
        self.assertEqual(ask(exact + [read(0, 0, MOST), known(0)])[2:], [[1], [0, MOST, MOST]])
        self.assertEqual(ask(exact + [read(0, 0, MOST + 1), known(0)])[2:], [[-5], [0, 1, MOST]])

    def test_readings_below_0(self):
        calls = ITEM + [tool(0, -LIMIT, -LIMIT, 0, 0), read(0, 0, 5 - LIMIT), known(0)]
        self.assertEqual(ask(calls)[2:], [[1], [0, 5, 5]])

    def test_reading_at_its_edges(self):
        wide = ITEM + [tool(0, -LIMIT, LIMIT, 1048576, 0)]
        for r in (-READING, READING):
            self.assertEqual(last(wide + [read(0, 0, r)]), [-5])
        for r in (-READING - 1, READING + 1, -FAR, FAR):
            self.assertEqual(last(wide + [read(0, 0, r)]), [-3])
        most = MOST + LIMIT + 1048576
        self.assertEqual(ask(wide + [read(0, 0, most), known(0)])[2:], [[1], [0, MOST, MOST]])
        self.assertEqual(last(wide + [read(0, 0, most + 1)]), [-5])
        least = 1 - LIMIT - 1048576
        self.assertEqual(ask(wide + [read(0, 0, least), known(0)])[2:], [[1], [0, 1, 1]])
        self.assertEqual(last(wide + [read(0, 0, least - 1)]), [-5])


class Gauges(unittest.TestCase):

    def bounds(self, kind, rs, d=2):
        calls = ITEM + [tool(kind, 50, 60, 0, d)] + [read(0, 0, r) for r in rs] + [known(0)]
        found = ask(calls)
        self.assertEqual(found[2:-1], [[number + 1] for number in range(len(rs))])
        return found[-1][1:]

    def test_plug(self):
        self.assertEqual(self.bounds(1, [1]), [50, MOST])
        self.assertEqual(self.bounds(1, [0]), [1, 59])
        self.assertEqual(self.bounds(1, [1, 1]), [50, MOST])
        self.assertEqual(self.bounds(1, [0, 1]), [48, 59])
        self.assertEqual(self.bounds(1, [0, 0]), [1, 59])

    def test_ring(self):
        self.assertEqual(self.bounds(2, [1]), [1, 60])
        self.assertEqual(self.bounds(2, [0]), [51, MOST])
        self.assertEqual(self.bounds(2, [1, 0]), [49, 60])
        self.assertEqual(self.bounds(2, [0, 0]), [51, MOST])

    def test_a_plug_does_not_grow(self):
        for d in (0, 5, 1048576):
            calls = ITEM + [tool(1, 50, 60, 0, d), read(0, 0, 1), read(0, 0, 0), known(0)]
            self.assertEqual(ask(calls)[2:], [[1], [-5], [0, 50, MOST]])

    def test_a_ring_does_not_grow(self):
        for d in (0, 5, 1048576):
            calls = ITEM + [tool(2, 50, 60, 0, d), read(0, 0, 0), read(0, 0, 1), known(0)]
            self.assertEqual(ask(calls)[2:], [[1], [-5], [0, 51, MOST]])

    def test_without_wear_a_gauge_tells_the_same(self):
        self.assertEqual(last(ITEM + [tool(1, 50, 60, 0, 0), read(0, 0, 0), read(0, 0, 1)]), [-5])
        self.assertEqual(last(ITEM + [tool(2, 50, 60, 0, 0), read(0, 0, 1), read(0, 0, 0)]), [-5])

    def test_sizes_that_no_item_has(self):
        self.assertEqual(last(ITEM + [tool(1, -5, 1, 0, 0), read(0, 0, 0)]), [-5])
        self.assertEqual(last(ITEM + [tool(1, -5, 2, 0, 0), read(0, 0, 0), known(0)]), [0, 1, 1])
        self.assertEqual(last(ITEM + [tool(1, MOST + 1, LIMIT, 0, 0), read(0, 0, 1)]), [-5])
        self.assertEqual(last(ITEM + [tool(1, MOST, LIMIT, 0, 0), read(0, 0, 1), known(0)]), [0, MOST, MOST])
        self.assertEqual(last(ITEM + [tool(2, -5, 0, 0, 0), read(0, 0, 1)]), [-5])
        self.assertEqual(last(ITEM + [tool(2, -5, 1, 0, 0), read(0, 0, 1), known(0)]), [0, 1, 1])
        self.assertEqual(last(ITEM + [tool(2, MOST, LIMIT, 0, 0), read(0, 0, 0)]), [-5])
        self.assertEqual(last(ITEM + [tool(2, MOST - 1, LIMIT, 0, 0), read(0, 0, 0), known(0)]), [0, MOST, MOST])

    def test_gauges_of_two_items(self):
        calls = [item("25"), item("25"), tool(2, 50, 60, 0, 3), read(0, 0, 1), read(0, 1, 0), known(0), known(1)]
        self.assertEqual(ask(calls)[3:], [[1], [2], [0, 1, 60], [0, 48, MOST]])

    def test_r_is_0_or_1(self):
        for kind in (1, 2):
            for r in (-1, 2, -FAR, FAR):
                self.assertEqual(last(ITEM + [tool(kind, 50, 60, 0, 0), read(0, 0, r)]), [-3])


class Refusals(unittest.TestCase):

    def full(self, uses=32):
        return ITEM + [tool(0, -100, 100, 0, 0), tool(1, 1, 1, 0, 0)] + [read(0, 0, 200)] * uses

    def test_no_such(self):
        bench = ITEM + [tool(0, 0, 0, 0, 0)]
        for number, part in ((1, 0), (0, 1), (1, 1), (WORD, 0), (0, WORD)):
            self.assertEqual(last(bench + [read(number, part, 5)]), [-4])
        self.assertEqual(last([read(0, 0, 5)]), [-4])

    def test_thirty_third_use(self):
        self.assertEqual(ask(self.full(33))[3:], [[number + 1] for number in range(32)] + [[-7]])

    def test_order(self):
        full = self.full()
        self.assertEqual(last(full + [read(2, 0, FAR)]), [-4])
        self.assertEqual(last(full + [read(0, 1, FAR)]), [-4])
        self.assertEqual(last(full + [read(1, 1, 2)]), [-4])
        self.assertEqual(last(full + [read(0, 0, FAR)]), [-3])
        self.assertEqual(last(full + [read(1, 0, 2)]), [-3])
        self.assertEqual(last(full + [read(0, 0, 201)]), [-7])
        self.assertEqual(last(full + [read(1, 0, 0)]), [-7])
        self.assertEqual(last(self.full(31) + [read(0, 0, 201)]), [-5])

    def test_refused_readings_leave_the_book(self):
        begun = [item("25"), item("25"), tool(0, -5, 5, 1, 1), tool(2, 90, 95, 0, 1), read(0, 0, 100)]
        tail = [known(0), known(1), read(0, 1, 107), known(0), known(1), read(1, 0, 1), known(0), known(1)]
        plain = ask(begun + tail)[len(begun):]
        for bad in (read(0, 0, 108), read(0, 0, FAR), read(9, 0, 1), read(1, 0, 2), read(0, 0, 88)):
            self.assertLess(last(begun + [bad]), [0])
            self.assertEqual(ask(begun + [bad, bad] + tail)[len(begun) + 2:], plain)

    def test_a_refused_use_is_no_use_before(self):
        calls = ITEM + [tool(0, 0, 0, 0, 4), read(0, 0, 100), read(0, 0, 105), read(0, 0, 104), read(0, 0, 108)]
        self.assertEqual(ask(calls)[2:], [[1], [-5], [2], [3]])


if __name__ == "__main__":
    unittest.main()
