"""check: what it tells of each kind of tool; the refusals and their order."""

import unittest

from tests.helper import FAR, LIMIT, MOST, READING, WORD, ask, check, item, known, last, read, tool

ITEM = [item("25")]


class Instruments(unittest.TestCase):

    def test_ahead_of_a_reading(self):
        # The nought there is 110 - 104 - 2 to 110 - 100 + 2, then 3 less or more.
        calls = ITEM + [tool(0, -50, 50, 2, 3), check(0, 100, 104, 110), read(0, 0, 200), known(0)]
        self.assertEqual(ask(calls)[2:], [[1], [2], [0, 200 - 15 - 2, 200 - 1 + 2]])

    def test_behind_a_reading(self):
        calls = ITEM + [tool(0, -50, 50, 2, 3), read(0, 0, 200), check(0, 100, 104, 110), known(0)]
        self.assertEqual(ask(calls)[2:], [[1], [2], [0, 200 - 15 - 2, 200 - 1 + 2]])

    def test_through_uses_between(self):
        calls = [item("25"), item("25"), tool(0, -50, 50, 0, 3)]
        calls = calls + [read(0, 0, 200), read(0, 1, 300), check(0, 100, 100, 110), known(0), known(1)]
        self.assertEqual(ask(calls)[3:], [[1], [2], [3], [0, 184, 196], [0, 287, 293]])

    def test_what_the_first_nought_allows(self):
        bench = [tool(0, -10, 10, 2, 0)]
        self.assertEqual(last(bench + [check(0, 100, 104, 116)]), [1])
        self.assertEqual(last(bench + [check(0, 100, 104, 117)]), [-5])
        self.assertEqual(last(bench + [check(0, 100, 104, 88)]), [1])
        self.assertEqual(last(bench + [check(0, 100, 104, 87)]), [-5])

    def test_each_check_has_a_length_of_its_own(self):
        bench = [tool(0, 0, 0, 0, 0), check(0, 100, 104, 100)]
        self.assertEqual(last(bench + [check(0, 100, 104, 104)]), [2])
        self.assertEqual(last(bench + [check(0, 100, 104, 105)]), [-5])

    def test_drift_between_checks(self):
        bench = [tool(0, -50, 50, 0, 3), check(0, 100, 100, 110)]
        self.assertEqual(ask(bench + [check(0, 100, 100, 113)])[2:], [[2]])
        self.assertEqual(ask(bench + [check(0, 100, 100, 114)])[2:], [[-5]])
        self.assertEqual(ask(bench + [check(0, 100, 100, 107)])[2:], [[2]])
        self.assertEqual(ask(bench + [check(0, 100, 100, 106)])[2:], [[-5]])

    def test_standards_below_0(self):
        self.assertEqual(last([tool(0, 5, 5, 0, 0), check(0, -100, -90, -95)]), [1])

    def test_ends_of_readings(self):
        bench = [tool(0, -LIMIT, LIMIT, 0, 0)]
        self.assertEqual(last(bench + [check(0, -LIMIT, LIMIT, 2 * LIMIT)]), [1])
        self.assertEqual(last(bench + [check(0, -LIMIT, LIMIT, 2 * LIMIT + 1)]), [-5])
        self.assertEqual(last(bench + [check(0, -LIMIT, LIMIT, -2 * LIMIT)]), [1])
        self.assertEqual(last(bench + [check(0, -LIMIT, LIMIT, -2 * LIMIT - 1)]), [-5])
        for r in (-READING, READING):
            self.assertEqual(last(bench + [check(0, 0, 0, r)]), [-5])
        for r in (-READING - 1, READING + 1, FAR, -FAR):
            self.assertEqual(last(bench + [check(0, 0, 0, r)]), [-3])


class Gauges(unittest.TestCase):

    def test_plug(self):
        bench = ITEM + [tool(1, 50, 60, 0, 2)]
        calls = bench + [check(0, 55, 56, 0), read(0, 0, 1), known(0)]
        self.assertEqual(ask(calls)[2:], [[1], [2], [0, 53, MOST]])
        calls = bench + [read(0, 0, 0), check(0, 51, 52, 0), known(0)]
        self.assertEqual(ask(calls)[2:], [[1], [2], [0, 1, 53]])
        calls = bench + [read(0, 0, 1), check(0, 55, 56, 0), known(0)]
        self.assertEqual(ask(calls)[2:], [[1], [2], [0, 55, MOST]])

    def test_ring(self):
        bench = ITEM + [tool(2, 50, 60, 0, 2)]
        calls = bench + [check(0, 55, 56, 0), read(0, 0, 1), known(0)]
        self.assertEqual(ask(calls)[2:], [[1], [2], [0, 1, 56]])
        calls = bench + [read(0, 0, 1), check(0, 51, 52, 0), known(0)]
        self.assertEqual(ask(calls)[2:], [[1], [2], [0, 1, 54]])
        calls = bench + [read(0, 0, 0), check(0, 55, 56, 0), known(0)]
        self.assertEqual(ask(calls)[2:], [[1], [2], [0, 56, MOST]])

    def test_gauges_wear_and_do_not_grow(self):
        for kind in (1, 2):
            bench = [tool(kind, 50, 60, 0, 2), check(0, 55, 56, 0)]
            self.assertEqual(last(bench + [check(0, 53, 53, 0)]), [2])
            self.assertEqual(last(bench + [check(0, 52, 52, 0)]), [-5])
            self.assertEqual(last(bench + [check(0, 56, 56, 0)]), [2])
            self.assertEqual(last(bench + [check(0, 57, 60, 0)]), [-5])

    def test_first_sizes(self):
        for kind in (1, 2):
            bench = [tool(kind, 50, 60, 0, 2)]
            self.assertEqual(last(bench + [check(0, 60, 70, 0)]), [1])
            self.assertEqual(last(bench + [check(0, 61, 70, 0)]), [-5])
            self.assertEqual(last(bench + [check(0, 40, 50, 0)]), [1])
            self.assertEqual(last(bench + [check(0, 40, 49, 0)]), [-5])

    def test_a_gauge_may_wear_out_of_its_limits(self):
        for kind in (1, 2):
            self.assertEqual(last([tool(kind, 50, 60, 0, 2), check(0, 50, 50, 0), check(0, 48, 48, 0)]), [2])

    def test_r_does_not_count(self):
        for kind in (1, 2):
            bench = ITEM + [tool(kind, 50, 60, 0, 0), read(0, 0, 1)]
            told = ask(bench + [check(0, 55, 55, 0), known(0)])
            for r in (1, 2, -FAR, FAR, READING + 1):
                self.assertEqual(ask(bench + [check(0, 55, 55, r), known(0)]), told)


class Refusals(unittest.TestCase):

    def full(self, uses=32):
        return [tool(0, 0, 0, 0, 0), tool(2, 5, 5, 0, 0)] + [check(0, 10, 10, 10)] * uses

    def test_no_such(self):
        self.assertEqual(last([check(0, 0, 0, 0)]), [-4])
        self.assertEqual(last([tool(0, 0, 0, 0, 0), check(1, 0, 0, 0)]), [-4])
        self.assertEqual(last([tool(0, 0, 0, 0, 0), check(WORD, 0, 0, 0)]), [-4])

    def test_lengths(self):
        for kind in (0, 1, 2):
            bench = [tool(kind, -LIMIT, LIMIT, 0, 0)]
            for a, b in ((-LIMIT, LIMIT), (-LIMIT, -LIMIT), (LIMIT, LIMIT), (0, 0)):
                self.assertEqual(last(bench + [check(0, a, b, 0)]), [1], (kind, a, b))
            for a, b in ((1, 0), (-LIMIT - 1, 0), (0, LIMIT + 1), (LIMIT + 1, LIMIT + 1), (-LIMIT - 1, -LIMIT - 1),
                         (-FAR, FAR), (FAR, -FAR)):
                self.assertEqual(last(bench + [check(0, a, b, 0)]), [-3], (kind, a, b))

    def test_thirty_third_use(self):
        self.assertEqual(ask(self.full(33))[2:], [[number + 1] for number in range(32)] + [[-7]])

    def test_uses_of_both_sorts_count(self):
        calls = ITEM + [tool(0, 0, 0, 0, 0)] + [check(0, 10, 10, 10), read(0, 0, 10)] * 16
        self.assertEqual(last(calls), [32])
        self.assertEqual(last(calls + [read(0, 0, 10)]), [-7])
        self.assertEqual(last(calls + [check(0, 10, 10, 10)]), [-7])

    def test_order(self):
        full = self.full()
        self.assertEqual(last(full + [check(2, 1, 0, 0)]), [-4])
        self.assertEqual(last(full + [check(0, 1, 0, 0)]), [-3])
        self.assertEqual(last(full + [check(0, 0, 0, FAR)]), [-3])
        self.assertEqual(last(full + [check(1, 0, LIMIT + 1, 0)]), [-3])
        self.assertEqual(last(full + [check(0, 10, 10, 11)]), [-7])
        self.assertEqual(last(full + [check(1, 6, 6, 0)]), [-7])
        self.assertEqual(last(self.full(31) + [check(0, 10, 10, 11)]), [-5])
        self.assertEqual(last(self.full(31) + [check(1, 6, 6, 0)]), [-5])

    def test_refused_checks_leave_the_book(self):
        begun = [item("25"), item("25"), tool(0, -5, 5, 1, 1), tool(2, 90, 95, 0, 1), read(0, 0, 100), read(1, 0, 0)]
        tail = [known(0), known(1), read(0, 1, 107), known(0), known(1), check(0, 100, 101, 103), known(0), known(1)]
        plain = ask(begun + tail)[len(begun):]
        for bad in (check(0, 100, 100, 200), check(1, 96, 99, 0), check(0, 1, 0, 0), check(2, 0, 0, 0),
                    check(0, 0, 0, FAR)):
            self.assertLess(last(begun + [bad]), [0])
            self.assertEqual(ask(begun + [bad, bad] + tail)[len(begun) + 2:], plain)


if __name__ == "__main__":
    unittest.main()
