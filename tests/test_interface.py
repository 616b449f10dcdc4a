"""answers: the form of what is handed in and given back, and that nothing is kept or changed."""

import unittest

from surebounds.bench import NoSuchCall, answers
from tests.helper import (
    FAR, LIMIT, apart, ask, back, check, coming, counts, everything, flat, item, item_bytes, judge, known, read, tool)

MIXED = [
    counts(), item("25 +-0.01"), item("2.50"), item_bytes([50] * 65), item("25 h7"), tool(0, -100, 100, 20, 10),
    tool(2, 250090, 250095, 0, 1), tool(7, 0, 0, 0, 0), read(0, 0, 250050), known(0), known(5), judge(0),
    read(0, 1, 250110), apart(0, 1), apart(1, 0), apart(0, 2), check(0, 250000, 250004, 250060),
    check(1, 250090, 250091, FAR), known(0), judge(0), judge(1), judge(2), coming(0), coming(1), coming(2), known(1),
    read(0, 0, 250300), read(0, 0, FAR), counts(), back(5), back(1), known(0), coming(1), counts(), back(0), counts(),
]


class Interface(unittest.TestCase):

    def test_how_many_then_these(self):
        self.assertEqual(answers(flat(MIXED)), [
            3, 0, 0, 0, 1, 0, 3, -2, 1, 4, 1, -1, 1, 1, 1, 0, 1, 1, 1, -3, 1, 1, 3, 0, 249930, 250170, 1, -4, 1, 0,
            1, 2, 3, 0, 10, 110, 3, 0, -110, -10, 1, -4, 1, 3, 1, 4, 3, 0, 249930, 250054, 1, 1, 1, 0, 1, -4,
            3, 0, 26, 90, 3, 0, 250089, 250091, 1, -4, 3, 0, 250000, 250104, 1, -5, 1, -3, 3, 2, 2, 4, 1, -4, 1, 1,
            3, 0, 249930, 250170, 3, 0, 250090, 250095, 3, 2, 2, 1, 1, 0, 3, 2, 2, 0])

    def test_any_call_first(self):
        told = (
            (item("25"), [0]), (tool(0, 0, 0, 0, 0), [0]), (read(0, 0, 0), [-4]), (check(0, 0, 0, 0), [-4]),
            (known(0), [-4]), (coming(0), [-4]), (judge(0), [-4]), (apart(0, 0), [-4]), (back(0), [0]),
            (counts(), [0, 0, 0]))
        for call, answer in told:
            self.assertEqual(answers(call), [len(answer)] + answer, call)

    def test_numbers_that_are_no_calls(self):
        for number in (0, 11, -1):
            with self.assertRaises(NoSuchCall):
                answers([number])

    def test_kinds(self):
        found = answers(flat(MIXED))
        self.assertIs(type(found), list)
        self.assertEqual({type(number) for number in found}, {int})

    def test_what_is_handed_in_stays(self):
        calls = flat(MIXED)
        answers(calls)
        self.assertEqual(calls, flat(MIXED))

    def test_what_is_handed_in_is_only_read(self):
        class ReadOnly(list):

            def refuse(self, *given):
                raise AssertionError("what is handed in is changed")

            append = extend = insert = pop = remove = clear = reverse = sort = refuse
            __setitem__ = __delitem__ = __iadd__ = __imul__ = refuse

        self.assertEqual(answers(ReadOnly(flat(MIXED))), answers(flat(MIXED)))

    def test_a_second_time_is_like_the_first(self):
        calls = flat(MIXED)
        first = answers(calls)
        copied = list(first)
        self.assertEqual(answers(calls), copied)
        answers(flat([item("1"), tool(0, 0, 0, 0, 0), read(0, 0, 5)]))
        self.assertEqual(answers(calls), copied)
        self.assertEqual(first, copied)
        self.assertIsNot(answers(calls), first)

    def test_a_new_list_is_a_new_bench(self):
        ask([item("1"), tool(0, 0, 0, 0, 0), read(0, 0, 5)])
        self.assertEqual(ask([known(0)]), [[-4]])
        self.assertEqual(ask([read(0, 0, 5)]), [[-4]])
        self.assertEqual(ask([item("1")]), [[0]])
        self.assertEqual(ask([tool(0, 0, 0, 0, 0)]), [[0]])

    def test_an_answer_given_back_is_not_the_bench(self):
        calls = flat([item("1"), known(0)])
        answers(calls).clear()
        self.assertEqual(answers(calls), [1, 0, 3, 0, 1, 4294967296])

    def test_texts_that_hold_the_numbers_of_calls(self):
        calls = [item_bytes([5, 5, 5]), item_bytes([]), item_bytes([1]), item("7"), known(0)]
        self.assertEqual(ask(calls), [[-2, 1, 0], [-2, 1, 0], [-2, 1, 0], [0], [0, 1, 4294967296]])

    def full_bench(self):
        calls = [item("25")] * 16 + [tool(0, -LIMIT, LIMIT, 5, 1)] * 8
        return calls + [read(turn % 8, (turn * 5 + turn // 8) % 16, 1000 + turn % 3) for turn in range(32)]

    def test_four_hundred_calls_on_a_full_bench(self):
        calls = self.full_bench()
        while len(calls) < 400:
            turn = len(calls)
            asked = (known(turn % 16), coming(turn % 8), judge(turn % 16), apart(turn % 16, turn // 7 % 16), counts())
            calls.append(asked[turn % 5])
        found = ask(calls)
        self.assertEqual(found[24:56], [[number + 1] for number in range(32)])
        self.assertEqual(len(found), 400)
        for call, answer in zip(calls[56:], found[56:]):
            if call[0] == 10:
                self.assertEqual(answer, [16, 8, 32])
            elif call[0] == 7:
                self.assertIn(answer, ([0], [1], [2]))
            else:
                self.assertEqual((len(answer), answer[0]), (3, 0), call)
                self.assertLessEqual(answer[1], answer[2])

    def test_four_hundred_calls_to_and_fro(self):
        calls = self.full_bench()
        while len(calls) < 400:
            calls.extend([back(31), calls[55]])
        self.assertEqual(ask(calls)[56:], [[31], [32]] * 172)

    def test_all_that_a_full_bench_tells(self):
        asked = everything(16, 8)
        self.assertEqual(len(asked), 297)
        found = ask(self.full_bench() + asked)[56:]
        told = {tuple(call): answer for call, answer in zip(asked, found)}
        for i in range(16):
            self.assertEqual(told[8, i, i], [0, 0, 0])
            for j in range(16):
                self.assertEqual(told[8, i, j], [0, -told[8, j, i][2], -told[8, j, i][1]])

    def test_four_hundred_texts(self):
        self.assertEqual(ask([item_bytes([0] * 55)] * 400), [[-2, 1, 0]] * 400)

    def test_four_hundred_of_each_call(self):
        told = ((known(0), [-4]), (coming(0), [-4]), (judge(0), [-4]), (apart(0, 0), [-4]), (back(0), [0]),
                (counts(), [0, 0, 0]), (read(0, 0, 0), [-4]), (check(0, 0, 0, 0), [-4]))
        for call, answer in told:
            self.assertEqual(ask([call] * 400), [answer] * 400)

    def test_texts_of_a_hundred_numbers(self):
        for byte in (0, 10, 50, 255):
            self.assertEqual(ask([item_bytes([byte] * 100), counts()]), [[-1], [0, 0, 0]])
        # As many numbers as a list may have, with a call behind the last text that is found only if all are passed.
        calls = [item_bytes([10] * 100)] * 225 + [item("25")] + [counts()] * 46
        self.assertEqual(len(flat(calls)), 23000)
        self.assertEqual(ask(calls), [[-1]] * 225 + [[0]] + [[1, 0, 0]] * 46)


if __name__ == "__main__":
    unittest.main()
