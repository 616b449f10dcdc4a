"""answers: the form of what is handed in and given back, and that nothing is kept or changed."""

import unittest

from surebounds.bench import answers
from tests.helper import FAR, LIMIT, ask, check, item, item_bytes, known, read, tool

MIXED = [
    item("25 +-0.01"), item("2.50"), item_bytes([50] * 65), item("25 h7"), tool(0, -100, 100, 20, 10),
    tool(2, 250090, 250095, 0, 1), tool(7, 0, 0, 0, 0), read(0, 0, 250050), known(0), known(5), read(0, 1, 250110),
    check(0, 250000, 250004, 250060), check(1, 250090, 250091, FAR), known(0), known(1), read(0, 0, 250300),
    read(0, 0, FAR), known(0),
]


def flat(calls):
    return [number for call in calls for number in call]


class Interface(unittest.TestCase):

    def test_how_many_then_these(self):
        self.assertEqual(answers(flat(MIXED)), [
            1, 0, 3, -2, 1, 4, 1, -1, 1, 1, 1, 0, 1, 1, 1, -3, 1, 1, 3, 0, 249930, 250170, 1, -4, 1, 2, 1, 3, 1, 4,
            3, 0, 249930, 250054, 3, 0, 250000, 250104, 1, -5, 1, -3, 3, 0, 249930, 250054])

    def test_kinds(self):
        found = answers(flat(MIXED))
        self.assertIs(type(found), list)
        self.assertEqual({type(number) for number in found}, {int})

    def test_what_is_handed_in_stays(self):
        calls = flat(MIXED)
        answers(calls)
        self.assertEqual(calls, flat(MIXED))

    def test_what_is_handed_in_is_only_read(self):
        class ReadOnly(list):

            def refuse(self, *given):
                raise AssertionError("what is handed in is changed")

            append = extend = insert = pop = remove = clear = reverse = sort = refuse
            __setitem__ = __delitem__ = __iadd__ = __imul__ = refuse

        self.assertEqual(answers(ReadOnly(flat(MIXED))), answers(flat(MIXED)))

    def test_a_second_time_is_like_the_first(self):
        calls = flat(MIXED)
        first = answers(calls)
        copied = list(first)
        self.assertEqual(answers(calls), copied)
        answers(flat([item("1"), tool(0, 0, 0, 0, 0), read(0, 0, 5)]))
        self.assertEqual(answers(calls), copied)
        self.assertEqual(first, copied)
        self.assertIsNot(answers(calls), first)

    def test_a_new_list_is_a_new_bench(self):
        ask([item("1"), tool(0, 0, 0, 0, 0), read(0, 0, 5)])
        self.assertEqual(ask([known(0)]), [[-4]])
        self.assertEqual(ask([read(0, 0, 5)]), [[-4]])
        self.assertEqual(ask([item("1")]), [[0]])
        self.assertEqual(ask([tool(0, 0, 0, 0, 0)]), [[0]])

    def test_an_answer_given_back_is_not_the_bench(self):
        calls = flat([item("1"), known(0)])
        answers(calls).clear()
        self.assertEqual(answers(calls), [1, 0, 3, 0, 1, 4294967296])

    def test_texts_that_hold_the_numbers_of_calls(self):
        calls = [item_bytes([5, 5, 5]), item_bytes([]), item_bytes([1]), item("7"), known(0)]
        self.assertEqual(ask(calls), [[-2, 1, 0], [-2, 1, 0], [-2, 1, 0], [0], [0, 1, 4294967296]])

    def test_four_hundred_calls_on_a_full_bench(self):
        calls = [item("25")] * 16 + [tool(0, -LIMIT, LIMIT, 5, 1)] * 8
        for turn in range(32):
            calls.append(read(turn % 8, (turn * 5 + turn // 8) % 16, 1000 + turn % 3))
        while len(calls) < 400:
            calls.append(known(len(calls) % 16))
        found = ask(calls)
        self.assertEqual(found[24:56], [[number + 1] for number in range(32)])
        self.assertEqual(len(found), 400)
        self.assertEqual({answer[0] for answer in found[56:]}, {0})

    def test_four_hundred_texts(self):
        self.assertEqual(ask([item_bytes([0] * 55)] * 400), [[-2, 1, 0]] * 400)


if __name__ == "__main__":
    unittest.main()
