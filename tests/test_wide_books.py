"""Books by chance, with lengths as long as they may be: honest ones, and ones with calls of every sort."""

import random
import unittest

from tests.helper import (
    FAR, LIMIT, MOST, READING, WORD, apart, ask, back, check, coming, counts, everything, item, item_bytes, judge,
    known, read, tool)

SEEDS = 120
DRIFT = 1048576
SIZES = {
    "25 +-0.01": (249900, 250100), "25 h9": (249683, 250000), "25 +0.02 +0.01": (250100, 250200),
    "25": (250000, 250000),
    "214748.3647 +107374.1824 -107374.1824": (1073741823, 3221225471),
    "0.0001 +0.0004 +0": (1, 5),
}


def somewhere(chance, lo, hi):
    return chance.choice((lo, hi, chance.randint(lo, hi), chance.randint(lo, hi)))


def some_size(chance, limits):
    near = somewhere(chance, limits[0] - 5, limits[1] + 5)
    return min(max(chance.choice((near, near, near, near, 1, MOST)), 1), MOST)


def some_tool(chance, sizes):
    d = chance.choice((0, 1, 10, DRIFT))
    kind = chance.randrange(3)
    if kind == 0:
        lo = chance.choice((-LIMIT, -100, 0, LIMIT - 100))
        return tool(0, lo, chance.choice((lo, lo + 100)), chance.choice((0, 5, DRIFT)), d)
    lo = chance.choice(sizes) + chance.randint(-30, 10)
    return tool(kind, lo, lo + chance.randint(0, 60), 0, d)


class Truth:
    """True sizes, noughts and sizes, and what tools show by these, as the document says that they do."""

    def __init__(self, seed):
        self.chance = random.Random(seed)
        self.texts = [self.chance.choice(list(SIZES)) for part in range(self.chance.randint(1, 5))]
        self.sizes = [some_size(self.chance, SIZES[text]) for text in self.texts]
        self.tools = [some_tool(self.chance, self.sizes) for number in range(self.chance.randint(1, 4))]
        # What each tool's nought or size was at its last use: behind no use, one, and so on.
        self.rows = [{}]

    def at_next_use(self, number):
        kind, lo, hi, e, d = self.tools[number][1:]
        before = self.rows[-1].get(number)
        if before is None:
            return somewhere(self.chance, lo, hi)
        return before + somewhere(self.chance, -d, d if kind == 0 else 0)

    def use(self):
        number = self.chance.randrange(len(self.tools))
        kind, lo, hi, e, d = self.tools[number][1:]
        value = self.at_next_use(number)
        self.rows.append({**self.rows[-1], number: value})
        if self.chance.randrange(4) == 0:
            return self.check(number, kind, e, value)
        part = self.chance.randrange(len(self.sizes))
        size = self.sizes[part]
        if kind == 0:
            return read(number, part, size + value + somewhere(self.chance, -e, e))
        goes = value <= size if kind == 1 else value >= size
        return read(number, part, 1 if goes else 0)

    def check(self, number, kind, e, value):
        length = self.chance.randint(-1000, 1000) if kind == 0 else value
        # No standard and no gauge is told to be beyond its farthest limit.
        a = max(length - self.chance.choice((0, 1, 30)), -LIMIT)
        b = min(length + self.chance.choice((0, 1, 30)), LIMIT)
        return check(number, a, b, length + value + somewhere(self.chance, -e, e) if kind == 0 else FAR)

    def back(self):
        n = self.chance.randrange(len(self.rows))
        self.rows = self.rows[:n + 1]
        return back(n)

    def made(self):
        return [item(text) for text in self.texts] + self.tools

    def fits(self, call, answer):
        """Whether what is told goes with the truth."""
        if call[0] == 5:
            return answer[1] <= self.sizes[call[1]] <= answer[2]
        if call[0] == 6:
            return answer[1] <= self.at_next_use(call[1]) <= answer[2]
        if call[0] == 7:
            lo, hi = SIZES[self.texts[call[1]]]
            return answer != [2 if lo <= self.sizes[call[1]] <= hi else 1]
        if call[0] == 8:
            return answer[1] <= self.sizes[call[2]] - self.sizes[call[1]] <= answer[2]
        return answer == [len(self.sizes), len(self.tools), len(self.rows) - 1]


class Honest(unittest.TestCase):

    def test_what_is_so_is_believed_and_within_all_that_is_told(self):
        """Promises 1 to 4: no honest use is refused, behind back either, and no bound shuts out the truth."""
        judged = 0
        for seed in range(SEEDS):
            truth = Truth(seed)
            calls = truth.made()
            told = []
            for turn in range(truth.chance.randint(1, 40)):
                full = len(truth.rows) == 33
                calls.append(truth.back() if full or truth.chance.randrange(7) == 0 else truth.use())
                told.append([len(truth.rows) - 1])
            asked = everything(len(truth.sizes), len(truth.tools))
            found = ask(calls + asked)
            made = len(truth.made())
            self.assertEqual(found[made:-len(asked)], told, seed)
            for call, answer in zip(asked, found[-len(asked):]):
                self.assertTrue(truth.fits(call, answer), (seed, call, answer))
                judged = judged + (call[0] == 7 and answer != [0])
        self.assertGreater(judged, SEEDS // 2)

    def honest_book(self, seed):
        """At most 29 uses, with an instrument without error or drift of nought 0, and one of any nought, behind."""
        truth = Truth(seed)
        uses = [truth.use() for turn in range(truth.chance.randint(1, 29))]
        return truth, truth.made() + [tool(0, 0, 0, 0, 0), tool(0, -LIMIT, LIMIT, 0, 0)] + uses

    def assert_ends(self, begun, questions, tried, seed):
        """Both ends and one between go on to a possible book, and what is one beyond doesn't."""
        uses = ask(begun + [counts()])[-1][2]
        given = list(begun)
        told = []
        for question, answer in zip(questions, ask(begun + questions)[len(begun):]):
            between = (answer[1] + answer[2]) // 2
            for value in (answer[1], answer[2], between, answer[1] - 1, answer[2] + 1):
                steps = tried(question, value)
                given = given + steps + [back(uses)]
                told = told + [[uses + number + 1] for number in range(len(steps))] + [[uses]]
                if not answer[1] <= value <= answer[2]:
                    told[-2] = [-5]
        self.assertEqual(ask(given)[len(begun):], told, seed)

    def test_bounds_are_taken_and_are_the_narrowest(self):
        for seed in range(SEEDS):
            truth, begun = self.honest_book(seed)
            exact = len(truth.tools)
            questions = [known(part) for part in range(len(truth.sizes))]
            self.assert_ends(begun, questions, lambda question, size: [read(exact, question[1], size)], seed)

    def test_differences_are_taken_and_are_the_narrowest(self):
        for seed in range(SEEDS):
            truth, begun = self.honest_book(seed)
            either = len(truth.tools) + 1
            parts = range(len(truth.sizes))
            questions = [apart(i, j) for i in parts for j in parts if i < j or i - j == 1]
            self.assert_ends(begun, questions, lambda question, above: [
                read(either, question[1], 0), read(either, question[2], above)], seed)

    def test_next_noughts_and_sizes_are_taken_and_are_the_narrowest(self):
        for seed in range(SEEDS):
            truth, begun = self.honest_book(seed)

            def tried(question, value):
                kind, lo, hi, e, d = truth.tools[question[1]][1:]
                if kind > 0:
                    return [check(question[1], value, value, 0)]
                # Shown as far from the nought as the error allows, to the side that's asked for.
                up = value > ask(begun + [question])[-1][1]
                return [check(question[1], 0, 0, value + e if up else value - e)]

            questions = [coming(number) for number in range(len(truth.tools))]
            self.assert_ends(begun, questions, tried, seed)


def wrong_call(chance):
    number = chance.choice((0, 1, 2, 7, 8, 15, 16, 33, WORD))
    length = chance.choice((
        -FAR, -READING - 1, -READING, -LIMIT - 1, -LIMIT, -1, 0, 1, 2, LIMIT, LIMIT + 1, READING, READING + 1, FAR))
    other = chance.choice((length, -length))
    return chance.choice((
        item_bytes([chance.randrange(256) for byte in range(chance.choice((0, 3, 64, 65, 100)))]),
        item(chance.choice(("2.50", "0", "25 +-999999", "25 +1 +2", "25 +-25", "25 h17"))),
        tool(chance.choice((0, 1, 2, 3, WORD)), length, other, number, number),
        read(number, chance.choice((0, 1, number)), length), check(number, length, other, length),
        known(number), coming(number), judge(number), apart(number, 0), apart(0, number), back(number), counts()))


def taken(calls, found):
    """The items, tools and uses that are on the bench at the end, by the answers alone."""
    made = []
    uses = []
    for call, answer in zip(calls, found):
        if answer[0] < 0:
            continue
        if call[0] in (1, 2):
            made.append(call)
        elif call[0] in (3, 4):
            uses.append(call)
        elif call[0] == 9:
            uses = uses[:call[1]]
    return made, uses


class Mixed(unittest.TestCase):

    def test_a_bench_is_what_was_taken_and_nothing_else(self):
        """Refused calls, calls that ask, and what was before back, leave no trace."""
        refusals = []
        for seed in range(SEEDS):
            truth = Truth(seed)
            chance = random.Random(seed + 1000)
            calls = truth.made()
            for turn in range(chance.randint(10, 150)):
                honest = truth.back() if chance.randrange(12) == 0 or len(truth.rows) == 33 else truth.use()
                calls.append(honest if chance.randrange(2) else wrong_call(chance))
            found = ask(calls)
            refusals.extend(answer[0] for answer in found if answer[0] < 0)
            made, uses = taken(calls, found)
            asked = everything(*(len([call for call in made if call[0] == kind]) for kind in (1, 2)))
            alone = ask(made + uses + asked)
            self.assertEqual(alone[len(made):-len(asked)], [[number + 1] for number in range(len(uses))], seed)
            self.assertEqual(ask(calls + asked)[-len(asked):], alone[-len(asked):], seed)
        self.assertEqual(set(refusals), {-1, -2, -3, -4, -5, -7})


if __name__ == "__main__":
    unittest.main()
