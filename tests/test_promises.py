"""The promises, against worlds that are counted one by one."""

import itertools
import random
import unittest

from tests.helper import MOST, ask, check, item, known, read, tool


class Worlds:
    """Every row of true sizes of a window, with the noughts or sizes that each tool may have had at its last use.

    It follows the words of the document use by use, and draws no conclusion from any bound.
    """

    def __init__(self, items, window):
        self.tools = []
        self.states = {sizes: {} for sizes in itertools.product(window, repeat=items)}

    def at_this_use(self, number, before):
        kind, lo, hi, e, d = self.tools[number]
        if number not in before:
            return range(lo, hi + 1)
        moves = range(-d, d + 1) if kind == 0 else range(-d, 1)
        return {value + move for value in before[number] for move in moves}

    def allows_read(self, number, size, r, value):
        kind, lo, hi, e, d = self.tools[number]
        if kind == 0:
            return size + value - e <= r <= size + value + e
        goes = value <= size if kind == 1 else value >= size
        return goes == (r == 1)

    def allows_check(self, number, a, b, r, value):
        kind, lo, hi, e, d = self.tools[number]
        if kind == 0:
            return any(length + value - e <= r <= length + value + e for length in range(a, b + 1))
        return a <= value <= b

    def allows(self, use, sizes, value):
        if use[0] == 3:
            return self.allows_read(use[1], sizes[use[2]], use[3], value)
        return self.allows_check(use[1], use[2], use[3], use[4], value)

    def use(self, use):
        """Whether the book with it is possible; if not, it is not taken."""
        states = {}
        for sizes, before in self.states.items():
            values = {value for value in self.at_this_use(use[1], before) if self.allows(use, sizes, value)}
            if values:
                states[sizes] = {**before, use[1]: frozenset(values)}
        if states:
            self.states = states
        return bool(states)

    def sizes_of(self, part):
        return {sizes[part] for sizes in self.states}


def some_tool(chance):
    kind = chance.randrange(3)
    if kind == 0:
        lo = chance.randrange(-4, 4)
        return tool(0, lo, lo + chance.randrange(6), chance.randrange(3), chance.randrange(3))
    lo = chance.randrange(1, 8)
    return tool(kind, lo, lo + chance.randrange(5), 0, chance.randrange(3))


def shifted(made, by):
    if made[1] == 0:
        return made
    return tool(made[1], made[2] + by, made[3] + by, 0, made[5])


def some_use(chance, tools, items, by):
    number = chance.randrange(len(tools))
    kind = tools[number][1]
    if chance.randrange(4) == 0:
        a = chance.randrange(-1, 9)
        b = a + chance.randrange(3)
        if kind == 0:
            return check(number, a, b, a + chance.randrange(-4, 6))
        return check(number, a + by, b + by, chance.randrange(-9, 9))
    part = chance.randrange(items)
    if kind == 0:
        return read(number, part, by + chance.randrange(-2, 13))
    return read(number, part, chance.randrange(2))


class Bench:
    """A bench by chance, its items pinned within a window: at the beginning of true sizes, or at their end."""

    def __init__(self, seed):
        chance = random.Random(seed)
        self.items = chance.choice((1, 2, 2, 3))
        wide = 8
        low_end = chance.randrange(3) > 0
        by = 0 if low_end else MOST - wide
        pin = tool(2, wide, wide, 0, 0) if low_end else tool(1, MOST - wide + 1, MOST - wide + 1, 0, 0)
        self.window = range(by + 1, by + wide + 1)
        self.tools = [pin] + [shifted(some_tool(chance), by) for number in range(chance.randrange(1, 4))]
        self.pins = [read(0, part, 1) for part in range(self.items)]
        self.tries = [some_use(chance, self.tools, self.items, by) for number in range(chance.randrange(4, 16))]
        self.made = [item("25")] * self.items + self.tools
        self.asked = [known(part) for part in range(self.items)]

    def run(self, uses):
        """For each use its answer and the bounds of all items behind it."""
        calls = list(self.made)
        for use in uses:
            calls = calls + [use] + self.asked
        found = ask(calls)[len(self.made):]
        every = 1 + self.items
        return [(found[at], found[at + 1:at + every]) for at in range(0, len(found), every)]


class Promises(unittest.TestCase):

    SEEDS = 250

    def test_possible_just_if_there_is_a_world_and_bounds_are_taken(self):
        """Promises 1, 2, 5."""
        refused = 0
        narrowed = 0
        for seed in range(self.SEEDS):
            bench = Bench(seed)
            uses = bench.pins + bench.tries
            worlds = Worlds(bench.items, bench.window)
            worlds.tools = [made[1:] for made in bench.tools]
            many = 0
            for use, (answer, bounds) in zip(uses, bench.run(uses)):
                if worlds.use(use):
                    many = many + 1
                    self.assertEqual(answer, [many], (seed, use))
                else:
                    refused = refused + 1
                    self.assertEqual(answer, [-5], (seed, use))
                if many < bench.items:
                    # An item that is not pinned yet may lie beyond the window.
                    continue
                for part in range(bench.items):
                    taken = worlds.sizes_of(part)
                    self.assertEqual(bounds[part], [0, min(taken), max(taken)], (seed, use))
                    self.assertEqual(taken, set(range(bounds[part][1], bounds[part][2] + 1)), (seed, use))
                    narrowed = narrowed + (len(taken) < 8)
        # Benches on which nothing was refused, or nothing told, would prove nothing.
        self.assertGreater(refused, self.SEEDS)
        self.assertGreater(narrowed, self.SEEDS)

    def test_what_comes_narrows_bounds_or_leaves_them(self):
        """Promise 3."""
        for seed in range(self.SEEDS):
            bench = Bench(seed)
            before = [[0, 1, MOST]] * bench.items
            for answer, bounds in bench.run(bench.pins + bench.tries):
                for old, new in zip(before, bounds):
                    self.assertTrue(old[1] <= new[1] <= new[2] <= old[2], seed)
                before = bounds

    def test_a_refused_use_changes_nothing(self):
        """Promise 5."""
        for seed in range(self.SEEDS):
            bench = Bench(seed)
            uses = bench.pins + bench.tries
            whole = bench.run(uses)
            kept = [use for use, told in zip(uses, whole) if told[0] != [-5]]
            self.assertEqual(bench.run(kept), [told for told in whole if told[0] != [-5]], seed)
            before = None
            for told in whole:
                if told[0] == [-5]:
                    self.assertEqual(told[1], before, seed)
                before = told[1]

    def test_another_order_of_different_tools(self):
        """Promise 6."""
        for seed in range(self.SEEDS):
            bench = Bench(seed)
            chance = random.Random(seed + 1000)
            uses = bench.pins + bench.tries
            whole = bench.run(uses)
            kept = [use for use, told in zip(uses, whole) if told[0] != [-5]]
            rows = [[use for use in kept if use[1] == number] for number in range(len(bench.tools))]
            turns = [use[1] for use in kept]
            chance.shuffle(turns)
            other = bench.run([rows[number].pop(0) for number in turns])
            self.assertEqual([told[0] for told in other], [[number + 1] for number in range(len(kept))], seed)
            self.assertEqual(other[-1][1], whole[-1][1], seed)


if __name__ == "__main__":
    unittest.main()
