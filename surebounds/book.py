"""A bench's book: items, tools and uses, and what is answered to each call."""

from surebounds.texts import SizeFault, said
from surebounds.tools import can_be_checked, can_read, check_span, is_tool, read_span, turned
from surebounds.worlds import Use, apart_bounds, is_possible, item_bounds, next_mark_bounds

TOO_LONG = -1
FAULTY = -2
UNFIT = -3
NO_SUCH = -4
IMPOSSIBLE = -5
FULL = -7

MOST_BYTES = 64
MOST_ITEMS = 16
MOST_TOOLS = 8
MOST_USES = 32

UNTOLD = 0
ACCEPTED = 1
REFUSED = 2


def judged(size, bounds):
    least = size.nominal + size.lo
    most = size.nominal + size.hi
    if least <= bounds[0] and bounds[1] <= most:
        return ACCEPTED
    if bounds[1] < least or most < bounds[0]:
        return REFUSED
    return UNTOLD


class Book:

    def __init__(self):
        self.sizes = []
        self.tools = []
        self.uses = []

    def add_item(self, text):
        if len(text) > MOST_BYTES:
            return [TOO_LONG]
        try:
            size = said(text)
        except SizeFault as fault:
            return [FAULTY, fault.kind, fault.place]
        if len(self.sizes) == MOST_ITEMS:
            return [FULL]
        self.sizes.append(size)
        return [len(self.sizes) - 1]

    def add_tool(self, tool):
        if not is_tool(tool):
            return [UNFIT]
        if len(self.tools) == MOST_TOOLS:
            return [FULL]
        self.tools.append(tool)
        return [len(self.tools) - 1]

    def add_use(self, use):
        if len(self.uses) == MOST_USES:
            return [FULL]
        # Built beside the book, so that a refused use leaves no trace in it.
        uses = self.uses + [use]
        if not is_possible(len(self.sizes), self.tools, uses):
            return [IMPOSSIBLE]
        self.uses = uses
        return [len(uses)]

    def read(self, tool, item, r):
        if tool >= len(self.tools) or item >= len(self.sizes):
            return [NO_SUCH]
        if not can_read(self.tools[tool], r):
            return [UNFIT]
        return self.add_use(Use(tool, item, read_span(self.tools[tool], r)))

    def check(self, tool, a, b, r):
        if tool >= len(self.tools):
            return [NO_SUCH]
        if not can_be_checked(self.tools[tool], a, b, r):
            return [UNFIT]
        return self.add_use(Use(tool, None, check_span(self.tools[tool], a, b, r)))

    def bounds_of(self, item):
        return item_bounds(len(self.sizes), self.tools, self.uses, item)

    def known(self, item):
        if item >= len(self.sizes):
            return [NO_SUCH]
        return [0] + list(self.bounds_of(item))

    def upcoming(self, tool):
        if tool >= len(self.tools):
            return [NO_SUCH]
        marks = next_mark_bounds(len(self.sizes), self.tools, self.uses, tool)
        return [0] + list(turned(self.tools[tool], marks))

    def judge(self, item):
        if item >= len(self.sizes):
            return [NO_SUCH]
        return [judged(self.sizes[item], self.bounds_of(item))]

    def apart(self, i, j):
        if i >= len(self.sizes) or j >= len(self.sizes):
            return [NO_SUCH]
        return [0] + list(apart_bounds(len(self.sizes), self.tools, self.uses, i, j))

    def back(self, n):
        if n > len(self.uses):
            return [NO_SUCH]
        self.uses = self.uses[:n]
        return [n]

    def counts(self):
        return [len(self.sizes), len(self.tools), len(self.uses)]
