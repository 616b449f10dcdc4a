"""judge: accepted, refused, or not to be told, by the item's bounds and its limits."""

import unittest

from tests.helper import MOST, WORD, ask, check, everything, item, judge, known, last, read, tool


def judged(text, least, most):
    """The judgment of an item whose bounds are these, by a plug and a ring that don't wear."""
    calls = [item(text), tool(1, least, least, 0, 0), tool(2, most, most, 0, 0)]
    calls = calls + [read(0, 0, 1), read(1, 0, 1), known(0), judge(0)]
    found = ask(calls)
    if found[3:6] != [[1], [2], [0, least, most]]:
        raise AssertionError("the bounds are not as asked for")
    return found[6]


class Judge(unittest.TestCase):

    def assert_edges(self, text, lo, hi):
        """Each end of the bounds at the limit and one beyond, for limits lo and hi as sizes."""
        told = {
            (lo, hi): 1, (lo - 1, hi): 0, (lo, hi + 1): 0, (lo - 1, hi + 1): 0,
            (lo, lo): 1, (hi, hi): 1, (lo - 1, lo): 0, (hi, hi + 1): 0,
            (lo - 1, lo - 1): 2, (hi + 1, hi + 1): 2, (lo - 20, lo - 1): 2, (hi + 1, hi + 20): 2,
            (lo - 20, lo): 0, (hi, hi + 20): 0, (1, lo - 1): 2, (hi + 1, MOST): 2, (1, lo): 0, (hi, MOST): 0,
            (1, MOST): 0,
        }
        found = {bounds: judged(text, bounds[0], bounds[1]) for bounds in told}
        self.assertEqual(found, {bounds: [told[bounds]] for bounds in told}, text)

    def test_even(self):
        self.assert_edges("25 +-0.01", 249900, 250100)
        self.assertEqual(judged("25 +-0.01", 249901, 250099), [1])

    def test_even_of_nothing(self):
        self.assert_edges("25 +-0", 250000, 250000)

    def test_uneven(self):
        self.assert_edges("25 +0.02 -0.01", 249900, 250200)

    def test_limits_beside_the_nominal_size(self):
        self.assert_edges("25 +0.02 +0.01", 250100, 250200)
        self.assert_edges("25 -0.01 -0.02", 249800, 249900)
        self.assertEqual(judged("25 +0.02 +0.01", 250000, 250000), [2])

    def test_codes(self):
        self.assert_edges("25 h7", 249841, 250000)
        self.assert_edges("25 H7", 250000, 250159)
        self.assert_edges("25 g6", 250000 - 168, 250000 - 56)
        self.assert_edges("25 I6", 250000 - 168, 250000 - 56)
        self.assert_edges("25 z0", 270275, 270289)

    def test_a_text_without_limits(self):
        # lo and hi are 0: the nominal size itself is accepted, and nothing else.
        self.assert_edges("25", 250000, 250000)

    def test_limits_at_the_ends(self):
        self.assertEqual(judged("0.0002 +-0.0001", 1, 3), [1])
        self.assertEqual(judged("0.0002 +-0.0001", 1, 4), [0])
        self.assertEqual(judged("0.0002 +-0.0001", 4, 4), [2])
        most = 2147483647 + 1073741824
        self.assertEqual(judged("214748.3647 +107374.1824 +0", 2147483647, most), [1])
        self.assertEqual(judged("214748.3647 +107374.1824 +0", 2147483647, most + 1), [0])
        self.assertEqual(judged("214748.3647 +107374.1824 +0", most + 1, MOST), [2])

    def test_nobody_measured_it(self):
        for text in ("25", "25 +-0.01", "25 h7", "0.0001 +107374.1824 +0"):
            self.assertEqual(last([item(text), judge(0)]), [0])

    def test_by_what_the_instrument_said_of_others(self):
        calls = [item("25 +-0.01"), item("25"), tool(0, -200, 200, 0, 0), tool(0, 0, 0, 0, 0), read(0, 0, 250050)]
        calls = calls + [judge(0), read(0, 1, 250020), read(1, 1, 250000), known(0), judge(0), judge(1)]
        self.assertEqual(ask(calls)[4:], [[1], [0], [2], [3], [0, 250030, 250030], [1], [1]])

    def test_by_a_later_check(self):
        begun = [item("25 +-0.01"), tool(0, -200, 200, 0, 5), read(0, 0, 250050), judge(0)]
        self.assertEqual(ask(begun + [check(0, 100, 100, 120), judge(0)])[2:], [[1], [0], [2], [1]])
        self.assertEqual(ask(begun + [check(0, 100, 100, 300), judge(0)])[2:], [[1], [0], [2], [2]])
        self.assertEqual(ask(begun + [check(0, 100, 100, 250), judge(0)])[2:], [[1], [0], [2], [0]])

    def test_each_by_its_own_limits(self):
        calls = [item("25 +-0.01"), item("25 +-0.02"), item("26 +-0.01"), tool(0, 0, 0, 0, 0)]
        calls = calls + [read(0, part, 250150) for part in range(3)] + [judge(part) for part in range(3)]
        self.assertEqual(ask(calls)[-3:], [[2], [1], [2]])

    def test_judge_changes_nothing(self):
        calls = [item("25 +-0.01"), item("25"), tool(0, -50, 50, 1, 2), read(0, 0, 250000)]
        tail = everything(2, 1) + [read(0, 1, 99), known(1)]
        asked = [judge(0), judge(1), judge(2)] * 3
        found = ask(calls + asked + tail)
        self.assertEqual(found[:4] + found[13:], ask(calls + tail))

    def test_no_such(self):
        self.assertEqual(last([judge(0)]), [-4])
        self.assertEqual(last([tool(0, 0, 0, 0, 0), judge(0)]), [-4])
        self.assertEqual(last([item("25"), judge(1)]), [-4])
        self.assertEqual(last([item("25"), judge(WORD)]), [-4])
        self.assertEqual(last([item("2.50"), judge(0)]), [-4])


if __name__ == "__main__":
    unittest.main()
