"""The document's examples: whole, in one list of calls in its order; and some of the words behind them."""

import unittest

from surebounds.bench import answers
from tests.helper import apart, ask, back, check, coming, counts, flat, item, judge, known, read, tool

WHOLE = (
    (item("25 +-0.01"), [0]),
    (item("25 +-0.01"), [1]),
    (tool(0, -100, 100, 20, 10), [0]),
    (read(0, 0, 250050), [1]),
    (known(0), [0, 249930, 250170]),
    (judge(0), [0]),
    (read(0, 1, 250110), [2]),
    (known(1), [0, 249980, 250240]),
    (apart(0, 1), [0, 10, 110]),
    (check(0, 250000, 250004, 250060), [3]),
    (known(0), [0, 249930, 250054]),
    (judge(0), [1]),
    (known(1), [0, 250000, 250104]),
    (judge(1), [0]),
    (coming(0), [0, 26, 90]),
    (read(0, 0, 250300), [-5]),
    (tool(2, 250090, 250095, 0, 1), [1]),
    (read(1, 1, 1), [4]),
    (judge(1), [1]),
    (back(2), [2]),
    (known(0), [0, 249930, 250170]),
    (known(2), [-4]),
    (read(0, 2, 5), [-4]),
    (read(1, 0, 2), [-3]),
    (tool(1, 0, 5, 1, 0), [-3]),
    (counts(), [2, 2, 2]),
    (item("25"), [2]),
    (known(2), [0, 1, 4294967296]),
)

CALLS = [call for call, answer in WHOLE]
# Up to the check, and up to the ring that goes: what the document says there is tried further below.
CHECKED = CALLS[:10]
RINGED = CALLS[:18]


class Examples(unittest.TestCase):

    def test_whole(self):
        self.assertEqual(list(zip(CALLS, ask(CALLS))), list(WHOLE))

    def test_number_by_number(self):
        self.assertEqual(answers(flat(CALLS)), [
            1, 0, 1, 1, 1, 0, 1, 1, 3, 0, 249930, 250170, 1, 0, 1, 2, 3, 0, 249980, 250240, 3, 0, 10, 110,
            1, 3, 3, 0, 249930, 250054, 1, 1, 3, 0, 250000, 250104, 1, 0, 3, 0, 26, 90, 1, -5,
            1, 1, 1, 4, 1, 1, 1, 2, 3, 0, 249930, 250170, 1, -4, 1, -4, 1, -3, 1, -3, 3, 2, 2, 2,
            1, 2, 3, 0, 1, 4294967296])

    def test_the_calls_as_numbers(self):
        text = [9, 50, 53, 32, 43, 45, 48, 46, 48, 49]
        self.assertEqual(flat(CALLS), [
            1] + text + [1] + text + [2, 0, -100, 100, 20, 10, 3, 0, 0, 250050, 5, 0, 7, 0, 3, 0, 1, 250110, 5, 1,
            8, 0, 1, 4, 0, 250000, 250004, 250060, 5, 0, 7, 0, 5, 1, 7, 1, 6, 0, 3, 0, 0, 250300,
            2, 2, 250090, 250095, 0, 1, 3, 1, 1, 1, 7, 1, 9, 2, 5, 0, 5, 2, 3, 0, 2, 5, 3, 1, 0, 2,
            2, 1, 0, 5, 1, 0, 10, 1, 2, 50, 53, 5, 2])

    def test_the_nought_at_the_check_and_ahead_of_it(self):
        # 36 to 80 at the check, 26 to 90 at the use before, 16 to 100 at the first.
        self.assertEqual(ask(CALLS[:4] + [coming(0)])[-1], [0, -110, 110])
        self.assertEqual(ask(CHECKED + [known(0)])[-1], [0, 250050 - 20 - 100, 250050 + 20 - 16])
        self.assertEqual(ask(CHECKED + [known(1)])[-1], [0, 250110 - 20 - 90, 250110 + 20 - 26])
        self.assertEqual(ask(CHECKED + [coming(0)])[-1], [0, 36 - 10, 80 + 10])

    def test_the_most_that_it_shows(self):
        # The item and its first nought come to 250,070 at most, the nought behind the check is 30 above that one.
        self.assertEqual(ask(CHECKED + [read(0, 0, 250070 + 30 + 20)])[-1], [4])
        self.assertEqual(ask(CHECKED + [read(0, 0, 250070 + 30 + 21)])[-1], [-5])
        self.assertEqual(ask(CHECKED + [read(0, 0, 250054 + 90 + 21)])[-1], [-5])

    def test_a_reading_that_cannot_be_is_not_believed(self):
        asked = [known(0), known(1), judge(0), judge(1), coming(0), apart(0, 1), counts()]
        self.assertEqual(ask(CHECKED + [read(0, 0, 250300)] + asked)[-7:], ask(CHECKED + asked)[-7:])

    def test_the_ring_goes(self):
        self.assertEqual(ask(RINGED + [known(1), coming(1)])[-2:], [[0, 250000, 250095], [0, 250089, 250095]])


if __name__ == "__main__":
    unittest.main()
