"""The promises, over small books drawn by chance, against worlds that are counted one by one."""

import functools
import itertools
import random
import unittest

from tests.helper import MOST, ask, back, check, everything, item, read, tool

SEEDS = 250
WIDE = 8
BACK = 9
MIDDLE = 250000


class Worlds:
    """Every row of true sizes of a window, with the noughts or sizes that each tool may have had at its last use.

    It follows the words of the document use by use, and draws no conclusion from any bound. A book is kept for
    each number of uses, so that going back is taking an earlier one.
    """

    def __init__(self, items, tools, window):
        self.tools = [made[1:] for made in tools]
        self.books = [{sizes: {} for sizes in itertools.product(window, repeat=items)}]

    def at_next_use(self, number, before):
        kind, lo, hi, e, d = self.tools[number]
        if number not in before:
            return range(lo, hi + 1)
        moves = range(-d, d + 1) if kind == 0 else range(-d, 1)
        return {value + move for value in before[number] for move in moves}

    def allows_read(self, number, size, r, value):
        kind, lo, hi, e, d = self.tools[number]
        if kind == 0:
            return size + value - e <= r <= size + value + e
        goes = value <= size if kind == 1 else value >= size
        return goes == (r == 1)

    def allows_check(self, number, a, b, r, value):
        kind, lo, hi, e, d = self.tools[number]
        if kind == 0:
            return any(length + value - e <= r <= length + value + e for length in range(a, b + 1))
        return a <= value <= b

    def allows(self, use, sizes, value):
        if use[0] == 3:
            return self.allows_read(use[1], sizes[use[2]], use[3], value)
        return self.allows_check(use[1], use[2], use[3], use[4], value)

    def use(self, use):
        """Whether the book with it is possible; if not, it is not taken."""
        states = {}
        for sizes, before in self.books[-1].items():
            values = {value for value in self.at_next_use(use[1], before) if self.allows(use, sizes, value)}
            if values:
                states[sizes] = {**before, use[1]: frozenset(values)}
        if states:
            self.books.append(states)
        return bool(states)

    def answer(self, call):
        if call[0] == BACK:
            if call[1] >= len(self.books):
                return [-4]
            self.books = self.books[:call[1] + 1]
            return [call[1]]
        return [len(self.books) - 1] if self.use(call) else [-5]

    def sizes_of(self, part):
        return {sizes[part] for sizes in self.books[-1]}

    def differences(self, i, j):
        return {sizes[j] - sizes[i] for sizes in self.books[-1]}

    def values_next(self, number):
        found = set()
        for before in self.books[-1].values():
            found.update(self.at_next_use(number, before))
        return found

    def judgment(self, part, limits):
        within = {limits[0] <= size <= limits[1] for size in self.sizes_of(part)}
        if within == {True}:
            return 1
        return 2 if within == {False} else 0


def some_tool(chance):
    kind = chance.randrange(3)
    if kind == 0:
        lo = chance.randrange(-4, 4)
        return tool(0, lo, lo + chance.randrange(6), chance.randrange(3), chance.randrange(3))
    lo = chance.randrange(1, 8)
    return tool(kind, lo, lo + chance.randrange(5), 0, chance.randrange(3))


def shifted(made, by):
    if made[1] == 0:
        return made
    return tool(made[1], made[2] + by, made[3] + by, 0, made[5])


def millimetres(ticks):
    whole = str(ticks // 10000)
    rest = str(ticks % 10000).zfill(4).rstrip("0")
    return whole + "." + rest if rest else whole


def signed(ticks):
    return ("-" if ticks < 0 else "+") + millimetres(abs(ticks))


class Bench:
    """A bench by chance, its items pinned within a window: at either end of true sizes, or between."""

    def __init__(self, seed):
        self.chance = random.Random(seed)
        self.count = self.chance.choice((1, 2, 2, 3))
        self.by = self.chance.choice((0, 0, MIDDLE, MIDDLE, MOST - WIDE))
        self.window = range(self.by + 1, self.by + WIDE + 1)
        gauges = [tool(1, self.by + 1, self.by + 1, 0, 0), tool(2, self.by + WIDE, self.by + WIDE, 0, 0)]
        more = self.chance.randrange(1, 4)
        self.tools = gauges + [shifted(some_tool(self.chance), self.by) for number in range(more)]
        self.pins = [read(number, part, 1) for part in range(self.count) for number in (0, 1)]
        self.limits = [self.some_limits() for part in range(self.count)]
        self.made = [item(self.text(limits)) for limits in self.limits] + self.tools
        self.asked = everything(self.count, len(self.tools))
        self.tries = [self.some_call() for number in range(self.chance.randrange(6, 16))]

    def some_limits(self):
        # No size's text has limits at the far end: there whatever is pinned is refused.
        by = min(self.by, MIDDLE)
        lo = by + self.chance.randrange(1, WIDE + 1)
        return (lo, lo + self.chance.randrange(8))

    def text(self, limits):
        # Any nominal size will do, since the deviations are told from it.
        nominal = max(1, limits[0] + self.chance.randrange(-3, 4))
        return " ".join([millimetres(nominal), signed(limits[1] - nominal), signed(limits[0] - nominal)])

    def some_call(self):
        if self.chance.randrange(8) == 0:
            # Not behind the pins: what isn't pinned may lie beyond the window.
            return back(len(self.pins) + self.chance.randrange(6))
        number = self.chance.randrange(len(self.tools))
        kind = self.tools[number][1]
        if self.chance.randrange(4) == 0:
            a = self.chance.randrange(-1, 9)
            b = a + self.chance.randrange(3)
            if kind == 0:
                return check(number, a, b, a + self.chance.randrange(-4, 6))
            return check(number, a + self.by, b + self.by, self.chance.randrange(-9, 9))
        part = self.chance.randrange(self.count)
        if kind == 0:
            return read(number, part, self.by + self.chance.randrange(-2, 13))
        return read(number, part, self.chance.randrange(2))

    def run(self, calls):
        """Behind the pins and then behind each call: the answer, and all that the bench tells."""
        begun = self.made + self.pins
        given = list(begun) + self.asked
        for call in calls:
            given = given + [call] + self.asked
        found = ask(given)[len(begun) - 1:]
        every = 1 + len(self.asked)
        return [(found[at], found[at + 1:at + every]) for at in range(0, len(found), every)]


@functools.lru_cache(maxsize=None)
def drawn(seed):
    """A bench, and what it told behind its pins and behind each of its calls."""
    bench = Bench(seed)
    return bench, bench.run(bench.tries)


def kept_uses(bench, told):
    """The uses behind the pins that are in the book at the end."""
    kept = []
    for call, (answer, state) in zip(bench.tries, told[1:]):
        if call[0] == BACK and answer != [-4]:
            kept = kept[:call[1] - len(bench.pins)]
        elif call[0] != BACK and answer != [-5]:
            kept.append(call)
    return kept


class Promises(unittest.TestCase):

    def assert_told(self, worlds, bench, state, seed):
        """Each of the answers by all worlds: both ends taken, and each whole number between."""
        for call, answer in zip(bench.asked, state):
            if call[0] == 7:
                self.assertEqual(answer, [worlds.judgment(call[1], bench.limits[call[1]])], (seed, call))
                continue
            if call[0] == 10:
                self.assertEqual(answer, [bench.count, len(bench.tools), len(worlds.books) - 1], (seed, call))
                continue
            if call[0] == 5:
                taken = worlds.sizes_of(call[1])
            elif call[0] == 6:
                taken = worlds.values_next(call[1])
            else:
                taken = worlds.differences(call[1], call[2])
            self.assertEqual(answer, [0, min(taken), max(taken)], (seed, call))
            self.assertEqual(taken, set(range(answer[1], answer[2] + 1)), (seed, call))

    def test_all_that_is_told_is_what_all_worlds_tell(self):
        """Promises 1, 2, 4, 5; back among the calls."""
        refused = 0
        gone = 0
        judgments = []
        for seed in range(SEEDS):
            bench, told = drawn(seed)
            worlds = Worlds(bench.count, bench.tools, bench.window)
            pinned = [worlds.answer(pin) for pin in bench.pins]
            self.assertEqual(told[0][0], pinned[-1], seed)
            self.assert_told(worlds, bench, told[0][1], seed)
            for call, (answer, state) in zip(bench.tries, told[1:]):
                self.assertEqual(answer, worlds.answer(call), (seed, call))
                self.assert_told(worlds, bench, state, seed)
                refused = refused + (answer == [-5])
                gone = gone + (call[0] == BACK and answer != [-4])
                judgments.extend(told[0] for call, told in zip(bench.asked, state) if call[0] == 7)
        # Benches on which nothing was refused, undone or judged would prove nothing.
        self.assertGreater(refused, SEEDS)
        self.assertGreater(gone, SEEDS // 4)
        self.assertGreater(min(judgments.count(answer) for answer in (0, 1, 2)), SEEDS)

    def test_what_comes_narrows_and_back_leaves_as_it_was(self):
        """Promise 3: of known, and of apart as well; behind back all is as it was then."""
        for seed in range(SEEDS):
            bench, told = drawn(seed)
            states = {len(bench.pins): told[0][1]}
            before = told[0][1]
            for call, (answer, state) in zip(bench.tries, told[1:]):
                if call[0] == BACK and answer != [-4]:
                    self.assertEqual(state, states[answer[0]], seed)
                elif answer[0] > 0:
                    states[answer[0]] = state
                    for question, old, new in zip(bench.asked, before, state):
                        if question[0] in (5, 8):
                            self.assertTrue(old[1] <= new[1] <= new[2] <= old[2], (seed, call, question))
                before = state

    def test_judged_once_and_for_all(self):
        """Promise 4: as long as uses come."""
        for seed in range(SEEDS):
            bench, told = drawn(seed)
            before = told[0][1]
            for call, (answer, state) in zip(bench.tries, told[1:]):
                for question, old, new in zip(bench.asked, before, state):
                    if call[0] != BACK and question[0] == 7 and old != [0]:
                        self.assertEqual(old, new, (seed, call, question))
                before = state

    def test_a_refused_call_changes_nothing(self):
        """Promise 5."""
        for seed in range(SEEDS):
            bench, told = drawn(seed)
            before = told[0][1]
            for answer, state in told[1:]:
                if answer[0] < 0:
                    self.assertEqual(state, before, seed)
                before = state
            fine = [call for call, (answer, state) in zip(bench.tries, told[1:]) if answer[0] >= 0]
            self.assertEqual(bench.run(fine), told[:1] + [one for one in told[1:] if one[0][0] >= 0], seed)

    def test_another_order_of_different_tools(self):
        """Promise 6: of all that is told, and with the uses alone that are left in the book."""
        moved = 0
        for seed in range(SEEDS):
            bench, told = drawn(seed)
            kept = kept_uses(bench, told)
            rows = [[use for use in kept if use[1] == number] for number in range(len(bench.tools))]
            turns = [use[1] for use in kept]
            random.Random(seed).shuffle(turns)
            other = [rows[number].pop(0) for number in turns]
            moved = moved + (other != kept)
            found = bench.run(other)
            self.assertEqual([answer for answer, state in found[1:]],
                             [[len(bench.pins) + number + 1] for number in range(len(kept))], seed)
            self.assertEqual(found[-1][1], told[-1][1], seed)
        self.assertGreater(moved, SEEDS // 4)


if __name__ == "__main__":
    unittest.main()
