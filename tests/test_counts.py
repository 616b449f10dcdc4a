"""counts: how many items, tools and uses there are."""

import unittest

from tests.helper import (
    FAR, LIMIT, WORD, apart, ask, back, check, coming, counts, item, item_bytes, judge, known, last, read, tool)


class Counts(unittest.TestCase):

    def test_at_the_beginning(self):
        self.assertEqual(ask([counts()]), [[0, 0, 0]])
        self.assertEqual(ask([counts(), counts()]), [[0, 0, 0], [0, 0, 0]])

    def test_each_in_its_place(self):
        calls = [item("25"), counts(), tool(0, 0, 0, 0, 0), counts(), read(0, 0, 5), counts(), check(0, 5, 5, 5)]
        calls = calls + [counts(), item("3"), counts(), back(1), counts(), back(0), counts()]
        self.assertEqual(ask(calls)[1::2], [
            [1, 0, 0], [1, 1, 0], [1, 1, 1], [1, 1, 2], [2, 1, 2], [2, 1, 1], [2, 1, 0]])

    def test_full(self):
        calls = [item("25")] * 17 + [tool(0, 0, 0, 0, 0)] * 9 + [read(0, 0, 5)] * 33
        self.assertEqual(last(calls + [counts()]), [16, 8, 32])

    def test_behind_calls_that_only_ask(self):
        begun = [item("25"), item("25"), tool(0, 0, 0, 0, 0), read(0, 0, 5)]
        for asked in (known(0), coming(0), judge(0), apart(0, 1), counts()):
            self.assertEqual(last(begun + [asked, asked, counts()]), [2, 1, 1])

    def test_behind_refused_calls(self):
        begun = [item("25"), item("25"), tool(0, -5, 5, 1, 1), tool(1, 50, 60, 0, 0), read(0, 0, 100)]
        refused = (
            (item_bytes([50] * 65), -1), (item("2.50"), -2), (item("0"), -2), (item("25 +-999999"), -2),
            (item("25 +1 +2"), -2), (item("25 +-25"), -2), (tool(3, 0, 0, 0, 0), -3), (tool(0, 1, 0, 0, 0), -3),
            (tool(0, 0, LIMIT + 1, 0, 0), -3), (tool(0, 0, 0, WORD, 0), -3), (tool(0, 0, 0, 0, WORD), -3),
            (tool(1, 0, 0, 1, 0), -3), (read(2, 0, 5), -4), (read(0, 2, 5), -4), (read(0, 0, FAR), -3),
            (read(1, 0, 2), -3), (read(0, 0, 200), -5), (read(1, 0, 0), -5), (check(2, 0, 0, 0), -4),
            (check(0, 1, 0, 0), -3), (check(0, 0, LIMIT + 1, 0), -3), (check(0, 0, 0, FAR), -3),
            (check(0, 0, 0, 99), -5), (check(1, 1, 2, 0), -5), (known(2), -4), (coming(2), -4), (judge(2), -4),
            (apart(2, 0), -4), (apart(0, 2), -4), (back(2), -4), (back(WORD), -4),
        )
        for bad, answer in refused:
            found = ask(begun + [bad, counts()])
            self.assertEqual((found[-2][0], found[-1]), (answer, [2, 2, 1]), bad)
        found = ask(begun + [bad for bad, answer in refused] + [counts()])
        self.assertEqual([answer[0] for answer in found[5:-1]], [answer for bad, answer in refused])
        self.assertEqual(found[-1], [2, 2, 1])

    def test_behind_refused_calls_of_a_full_bench(self):
        calls = [item("25")] * 16 + [tool(0, 0, 0, 0, 0)] * 8 + [read(0, 0, 5)] * 32
        for bad in (item("25"), tool(0, 0, 0, 0, 0), read(0, 0, 5), check(0, 5, 5, 5)):
            self.assertEqual(ask(calls + [bad, counts()])[-2:], [[-7], [16, 8, 32]])


if __name__ == "__main__":
    unittest.main()
