"""back: the book has its first uses alone from then on, with all items and tools."""

import unittest

from tests.helper import MOST, WORD, ask, back, check, coming, counts, everything, item, judge, known, last, read, tool

BENCH = [item("25 +-0.01"), item("25 h7"), tool(0, -100, 100, 20, 10), tool(2, 250090, 250095, 0, 1),
         tool(1, 249000, 250080, 0, 2)]
USES = [read(0, 0, 250050), read(0, 1, 250110), check(0, 250000, 250004, 250060), read(1, 1, 1), read(2, 0, 1),
        check(2, 249990, 250070, 0), read(2, 1, 1), read(1, 1, 0)]
ALL = everything(2, 3)


def told_with(many):
    """All that is told with so many uses, on a bench that never had more."""
    return ask(BENCH + USES[:many] + ALL)[-len(ALL):]


class Back(unittest.TestCase):

    def test_the_uses_tell_something_each(self):
        self.assertEqual(ask(BENCH + USES)[5:], [[number + 1] for number in range(len(USES))])
        told = [told_with(many) for many in range(len(USES) + 1)]
        for before, behind in zip(told, told[1:]):
            self.assertNotEqual(before[:-1], behind[:-1])

    def test_to_every_number(self):
        for many in range(len(USES) + 1):
            for n in range(many + 1):
                found = ask(BENCH + USES[:many] + [back(n)] + ALL)
                self.assertEqual(found[-len(ALL) - 1], [n])
                self.assertEqual(found[-len(ALL):], told_with(n), (many, n))

    def test_to_nothing(self):
        found = ask(BENCH + USES + [back(0), known(0), known(1), coming(0), coming(1), coming(2), counts()])
        self.assertEqual(found[-7:], [
            [0], [0, 1, MOST], [0, 1, MOST], [0, -100, 100], [0, 250090, 250095], [0, 249000, 250080], [2, 3, 0]])

    def test_to_as_many_as_there_are(self):
        found = ask(BENCH + USES + [back(8)] + ALL)
        self.assertEqual(found[-len(ALL) - 1], [8])
        self.assertEqual(found[-len(ALL):], told_with(8))

    def test_to_more_than_there_are(self):
        for many in range(len(USES) + 1):
            for n in (many + 1, many + 2, 33, WORD):
                found = ask(BENCH + USES[:many] + [back(n)] + ALL)
                self.assertEqual(found[-len(ALL) - 1], [-4], (many, n))
                self.assertEqual(found[-len(ALL):], told_with(many), (many, n))

    def test_on_a_new_bench(self):
        self.assertEqual(ask([back(0), back(1), counts()]), [[0], [-4], [0, 0, 0]])

    def test_what_is_dropped_does_not_come_back(self):
        found = ask(BENCH + USES + [back(3), back(4), counts(), back(3)] + ALL)
        self.assertEqual(found[13:17], [[3], [-4], [2, 3, 3], [3]])
        self.assertEqual(found[17:], told_with(3))

    def test_step_by_step(self):
        calls = BENCH + USES
        for n in reversed(range(len(USES))):
            calls = calls + [back(n)] + ALL
        found = ask(calls)[13:]
        for n in reversed(range(len(USES))):
            self.assertEqual(found[:1 + len(ALL)], [[n]] + told_with(n))
            found = found[1 + len(ALL):]

    def test_items_and_tools_stay(self):
        late = [item("3 +-1"), tool(0, 5, 6, 0, 0)]
        calls = BENCH[:1] + BENCH[2:3] + USES[:1] + late + [read(1, 1, 29999), back(0), counts(), known(1), coming(1)]
        self.assertEqual(ask(calls)[5:], [[2], [0], [2, 2, 0], [0, 1, MOST], [0, 5, 6]])
        self.assertEqual(ask(calls + [judge(1), read(1, 1, 29999), judge(1), item("4"), tool(0, 0, 0, 0, 0)])[-5:],
                         [[0], [1], [1], [2], [2]])

    def test_full_of_items_and_tools_it_stays_full(self):
        calls = [item("25")] * 16 + [tool(0, 0, 0, 0, 0)] * 8 + [read(0, 0, 5), back(0)]
        self.assertEqual(ask(calls + [item("25"), tool(0, 0, 0, 0, 0), counts()])[-3:], [[-7], [-7], [16, 8, 0]])

    def test_uses_come_again(self):
        for n in range(len(USES) + 1):
            found = ask(BENCH + USES + [back(n)] + USES[n:] + ALL)
            self.assertEqual(found[13:-len(ALL)], [[number] for number in range(n, 9)], n)
            self.assertEqual(found[-len(ALL):], told_with(8), n)

    def test_other_uses_come(self):
        # Behind the check the nought is 90 at the most; this one tells 91 at least, which without the check may be.
        other = check(0, 250000, 250004, 250115)
        found = ask(BENCH + USES[:3] + [other, back(2), other] + ALL)
        self.assertEqual(found[8:11], [[-5], [2], [3]])
        self.assertEqual(found[11:], ask(BENCH + USES[:2] + [other] + ALL)[8:])

    def test_the_thirty_second_comes_again(self):
        full = [item("25"), tool(0, -5, 5, 1, 0)] + [read(0, 0, 100)] * 32
        calls = full + [read(0, 0, 100), back(31), read(0, 0, 101), counts(), read(0, 0, 101), known(0)]
        self.assertEqual(ask(calls)[33:], [[32], [-7], [31], [32], [1, 1, 32], [-7], [0, 95, 106]])
        calls = full + [back(0)] + [read(0, 0, 50)] * 33 + [known(0)]
        self.assertEqual(ask(calls)[34:], [[number] for number in range(33)] + [[-7], [0, 44, 56]])

    def test_a_first_use_anew(self):
        # Behind back(0) the nought is one from 0 to 4 again, however far it had gone.
        bench = [tool(0, 0, 4, 0, 10), check(0, 0, 0, 4), check(0, 0, 0, 14)]
        self.assertEqual(ask(bench + [check(0, 0, 0, 5)])[1:], [[1], [2], [3]])
        self.assertEqual(ask(bench + [back(0), check(0, 0, 0, 5), check(0, 0, 0, 0), coming(0)])[3:],
                         [[0], [-5], [1], [0, -10, 10]])
        self.assertEqual(ask(bench + [back(1), check(0, 0, 0, 15), check(0, 0, 0, -6), coming(0)])[3:],
                         [[1], [-5], [2], [0, -16, 4]])
        for kind in (1, 2):
            bench = [tool(kind, 50, 60, 0, 10), check(0, 50, 50, 0), check(0, 40, 40, 0)]
            self.assertEqual(ask(bench + [back(0), coming(0), check(0, 40, 40, 0), check(0, 60, 60, 0), coming(0)])[3:],
                             [[0], [0, 50, 60], [-5], [1], [0, 50, 60]])

    def test_first_uses_of_one_tool_and_not_of_another(self):
        calls = [tool(0, 0, 4, 0, 1), tool(1, 50, 60, 0, 1), check(0, 0, 0, 2), check(1, 55, 55, 0), check(0, 0, 0, 3)]
        self.assertEqual(ask(calls + [back(2), coming(0), coming(1)])[5:], [[2], [0, 1, 3], [0, 54, 55]])
        self.assertEqual(ask(calls + [back(1), coming(0), coming(1)])[5:], [[1], [0, 1, 3], [0, 50, 60]])

    def test_judged_anew(self):
        calls = BENCH + USES[:3] + [judge(0), back(2), judge(0), USES[2], judge(0)]
        self.assertEqual(ask(calls)[8:], [[1], [2], [0], [3], [1]])

    def test_n_counts_uses_that_were_taken(self):
        calls = BENCH + USES[:1] + [read(0, 0, 999), read(9, 0, 0), read(0, 0, MOST * 1024), back(2), back(1)]
        self.assertEqual(ask(calls)[5:], [[1], [-5], [-4], [-3], [-4], [1]])

    def test_a_use_behind_a_refused_back(self):
        self.assertEqual(last(BENCH + USES + [back(9), read(0, 0, 250050)]), [9])


if __name__ == "__main__":
    unittest.main()
