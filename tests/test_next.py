"""next: between what a tool's nought or size would be at its next use."""

import unittest

from tests.helper import LIMIT, MOST, WORD, apart, ask, check, coming, everything, item, known, last, read, tool

ITEM = [item("25")]
DRIFT = 1048576


class Unused(unittest.TestCase):

    def test_each_kind(self):
        for kind in (0, 1, 2):
            for d in (0, 3, DRIFT):
                self.assertEqual(last([tool(kind, -7, 9, 0, d), coming(0)]), [0, -7, 9], (kind, d))
                self.assertEqual(last([tool(kind, 5, 5, 0, d), coming(0)]), [0, 5, 5], (kind, d))
                self.assertEqual(last([tool(kind, -LIMIT, LIMIT, 0, d), coming(0)]), [0, -LIMIT, LIMIT], (kind, d))

    def test_the_error_does_not_count(self):
        self.assertEqual(last([tool(0, -7, 9, 20, 3), coming(0)]), [0, -7, 9])

    def test_uses_of_others_do_not_count(self):
        for kind in (0, 1, 2):
            calls = ITEM + [tool(kind, 40, 60, 0, 3), tool(0, 0, 0, 0, 0), read(1, 0, 50), coming(0), coming(1)]
            self.assertEqual(ask(calls)[-2:], [[0, 40, 60], [0, 0, 0]])

    def test_refused_uses_do_not_count(self):
        for kind in (0, 1, 2):
            calls = ITEM + [tool(kind, 40, 60, 0, 3), check(0, 70, 70, 1), coming(0)]
            self.assertEqual(ask(calls)[-2:], [[-5], [0, 40, 60]])


class BehindUses(unittest.TestCase):

    def sure(self, kind, d, uses, lo=40, hi=60, e=0):
        calls = ITEM + [tool(kind, lo, hi, e, d)] + uses + [coming(0)]
        found = ask(calls)
        self.assertEqual(found[2:-1], [[number + 1] for number in range(len(uses))])
        return found[-1]

    def test_one_use_that_tells_nothing(self):
        for d in (0, 3, DRIFT):
            self.assertEqual(self.sure(0, d, [read(0, 0, 1000)]), [0, 40 - d, 60 + d])
            self.assertEqual(self.sure(1, d, [read(0, 0, 1)]), [0, 40 - d, 60])
            self.assertEqual(self.sure(1, d, [read(0, 0, 0)]), [0, 40 - d, 60])
            self.assertEqual(self.sure(2, d, [read(0, 0, 1)]), [0, 40 - d, 60])
            self.assertEqual(self.sure(2, d, [read(0, 0, 0)]), [0, 40 - d, 60])

    def test_several_uses_that_tell_nothing(self):
        for d in (0, 3):
            for many in (2, 3, 32):
                self.assertEqual(self.sure(0, d, [read(0, 0, 1000)] * many, e=100), [0, 40 - many * d, 60 + many * d])
                for kind in (1, 2):
                    uses = [check(0, -LIMIT, LIMIT, 0)] * many
                    self.assertEqual(self.sure(kind, d, uses), [0, 40 - many * d, 60])

    def test_readings_of_its_own(self):
        # The true size is 1 at least, so a reading of 50 tells that the nought is 49 at most, with the error 51.
        self.assertEqual(self.sure(0, 0, [read(0, 0, 50)]), [0, 40, 49])
        self.assertEqual(self.sure(0, 3, [read(0, 0, 50)], e=2), [0, 37, 51 + 3])
        # At the second use the nought is 1 below the first one: 39 to 48.
        self.assertEqual(self.sure(0, 3, [read(0, 0, 50), read(0, 0, 49)]), [0, 36, 51])
        most = MOST + 55
        self.assertEqual(self.sure(0, 3, [read(0, 0, most)]), [0, 52, 63])

    def test_one_item_read_twice(self):
        # The same item shown 4 higher: the nought rose by 2 at least, as far as both errors tell.
        self.assertEqual(self.sure(0, 5, [read(0, 0, 100), read(0, 0, 104)], e=1), [0, 40 + 2 - 5, 65 + 5])
        self.assertEqual(self.sure(0, 2, [read(0, 0, 100), read(0, 0, 104)], e=1), [0, 40 + 2 - 2, 62 + 2])

    def test_gauges_by_their_own_uses(self):
        # No true size is below 1, and a plug of 1 or less would go into each: not going, its size is 2 at least.
        self.assertEqual(self.sure(1, 0, [read(0, 0, 0)], lo=-5, hi=9), [0, 2, 9])
        self.assertEqual(self.sure(1, 4, [read(0, 0, 0)], lo=-5, hi=9), [0, -2, 9])
        self.assertEqual(self.sure(2, 4, [read(0, 0, 1)], lo=-5, hi=9), [0, -3, 9])
        self.assertEqual(self.sure(1, 4, [read(0, 0, 1)], lo=MOST - 9, hi=MOST + 9), [0, MOST - 13, MOST])
        self.assertEqual(self.sure(2, 4, [read(0, 0, 0)], lo=MOST - 9, hi=MOST + 9), [0, MOST - 13, MOST - 1])

    def test_gauges_that_wore(self):
        # First not, then it goes: the plug's size has sunk by 1 at least, the ring's the other way round.
        self.assertEqual(self.sure(1, 3, [read(0, 0, 0), read(0, 0, 1)]), [0, 34, 59])
        self.assertEqual(self.sure(2, 3, [read(0, 0, 1), read(0, 0, 0)]), [0, 34, 59])

    def test_behind_a_check(self):
        for d in (0, 3, DRIFT):
            self.assertEqual(self.sure(0, d, [check(0, 100, 104, 150)], e=2), [0, 44 - d, 52 + d])
            for kind in (1, 2):
                self.assertEqual(self.sure(kind, d, [check(0, 45, 47, 0)]), [0, 45 - d, 47])

    def test_behind_a_check_and_more_uses(self):
        for d in (0, 3):
            self.assertEqual(
                self.sure(0, d, [check(0, 100, 104, 150), read(0, 0, 999)], e=2), [0, 44 - 2 * d, 52 + 2 * d])
            for kind in (1, 2):
                uses = [check(0, 45, 47, 0), check(0, -LIMIT, LIMIT, 0)]
                self.assertEqual(self.sure(kind, d, uses), [0, 45 - 2 * d, 47])

    def test_checks_narrow_one_another(self):
        self.assertEqual(self.sure(0, 3, [check(0, 100, 100, 150), check(0, 100, 108, 158)]), [0, 50 - 3, 53 + 3])
        for kind in (1, 2):
            self.assertEqual(self.sure(kind, 3, [check(0, 50, 50, 0), check(0, 40, 48, 0)]), [0, 44, 48])

    def test_beyond_the_limits(self):
        uses = [check(0, 0, 0, LIMIT)]
        self.assertEqual(self.sure(0, 3, uses, lo=LIMIT, hi=LIMIT), [0, LIMIT - 3, LIMIT + 3])
        uses = [check(0, -LIMIT, 0, 0)]
        for kind in (1, 2):
            self.assertEqual(self.sure(kind, 3, uses, lo=-LIMIT, hi=-LIMIT), [0, -LIMIT - 3, -LIMIT])


class Joined(unittest.TestCase):

    def test_what_others_said_of_the_same_item(self):
        # Item 0 is 500 surely, so that what the tool shows of it tells its nought or size.
        begun = ITEM + [tool(0, 0, 0, 0, 0), read(0, 0, 500)]
        for d in (0, 3):
            calls = begun + [tool(0, -50, 50, 2, d), read(1, 0, 512), coming(1)]
            self.assertEqual(last(calls), [0, 10 - d, 14 + d])
            calls = begun + [tool(1, 490, 510, 0, d), read(1, 0, 1), coming(1)]
            self.assertEqual(last(calls), [0, 490 - d, 500])
            calls = begun + [tool(1, 490, 510, 0, d), read(1, 0, 0), coming(1)]
            self.assertEqual(last(calls), [0, 501 - d, 510])
            calls = begun + [tool(2, 490, 510, 0, d), read(1, 0, 1), coming(1)]
            self.assertEqual(last(calls), [0, 500 - d, 510])
            calls = begun + [tool(2, 490, 510, 0, d), read(1, 0, 0), coming(1)]
            self.assertEqual(last(calls), [0, 490 - d, 499])

    def test_what_others_say_later(self):
        calls = ITEM + [tool(0, 0, 0, 0, 0), tool(0, -50, 50, 2, 3), read(1, 0, 512), coming(1), read(0, 0, 500)]
        self.assertEqual(ask(calls + [coming(1)])[3:], [[1], [0, -53, 53], [2], [0, 7, 17]])

    def test_through_another_tool_and_item(self):
        # Tool 1 reads both items, tool 0 item 0 alone: what is checked of tool 1 tells of tool 0.
        calls = [item("25"), item("25"), tool(0, -50, 50, 0, 0), tool(0, -50, 50, 0, 1)]
        calls = calls + [read(0, 0, 500), read(1, 0, 520), coming(0), check(1, 100, 100, 130), coming(0), coming(1)]
        self.assertEqual(ask(calls)[4:], [
            [1], [2], [0, -50, 30], [3], [0, 9, 11], [0, 29, 31]])

    def test_next_changes_nothing(self):
        calls = [item("25"), item("25"), tool(0, -50, 50, 1, 2), tool(1, 90, 95, 0, 2), tool(2, 0, 5, 0, 0)]
        calls = calls + [read(0, 0, 100), read(1, 0, 1), check(0, 70, 70, 80)]
        plain = ask(calls + everything(2, 3) + [read(0, 1, 99), known(1), apart(0, 1)])
        asked = [coming(0), coming(1), coming(2), coming(3)] * 3
        other = ask(calls + asked + everything(2, 3) + [read(0, 1, 99), known(1), apart(0, 1)])
        self.assertEqual(other[:len(calls)] + other[len(calls) + len(asked):], plain)

    def test_next_of_a_full_book(self):
        calls = [tool(0, 0, 0, 0, 1)] + [check(0, -LIMIT, LIMIT, 0)] * 32 + [coming(0), check(0, 0, 0, 0)]
        self.assertEqual(ask(calls)[-2:], [[0, -32, 32], [-7]])

    def test_no_such(self):
        self.assertEqual(last([coming(0)]), [-4])
        self.assertEqual(last([item("25"), coming(0)]), [-4])
        self.assertEqual(last([tool(0, 0, 0, 0, 0), coming(1)]), [-4])
        self.assertEqual(last([tool(0, 0, 0, 0, 0), coming(WORD)]), [-4])
        self.assertEqual(last([tool(3, 0, 0, 0, 0), coming(0)]), [-4])


if __name__ == "__main__":
    unittest.main()
