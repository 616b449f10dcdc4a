"""Tools, and between what their marks lie.

A tool has a mark at each use: a gauge's size, or an instrument's nought with
its sign turned. Turned so, whatever a use tells is how far an item's true size
is above the mark, for instruments as for gauges.

A span is the least and the most of something, None where it is open.
"""

INSTRUMENT = 0
PLUG = 1
RING = 2

FARTHEST_LIMIT = 8589934592
FARTHEST_READING = 1099511627776
MOST_ERROR = 1048576


class Tool:

    def __init__(self, kind, lo, hi, e, d):
        self.kind = kind
        self.lo = lo
        self.hi = hi
        self.e = e
        self.d = d


def are_limits(lo, hi):
    return -FARTHEST_LIMIT <= lo <= hi <= FARTHEST_LIMIT


def is_tool(tool):
    if tool.kind > RING or not are_limits(tool.lo, tool.hi):
        return False
    if not 0 <= tool.e <= MOST_ERROR or not 0 <= tool.d <= MOST_ERROR:
        return False
    return tool.kind == INSTRUMENT or tool.e == 0


def can_show(r):
    return -FARTHEST_READING <= r <= FARTHEST_READING


def can_read(tool, r):
    if tool.kind == INSTRUMENT:
        return can_show(r)
    return r == 0 or r == 1


def can_be_checked(tool, a, b, r):
    return are_limits(a, b) and (tool.kind != INSTRUMENT or can_show(r))


# From the mark's span to that of the nought or size, and from that one to the mark's.
def turned(tool, span):
    if tool.kind == INSTRUMENT:
        return (-span[1], -span[0])
    return span


def first_span(tool):
    return turned(tool, (tool.lo, tool.hi))


# Of a mark, above the mark of the tool's use before.
def later_span(tool):
    if tool.kind == INSTRUMENT:
        return (-tool.d, tool.d)
    return (-tool.d, 0)


# Of the item's true size, above the mark.
def read_span(tool, r):
    if tool.kind == INSTRUMENT:
        return (r - tool.e, r + tool.e)
    if tool.kind == PLUG:
        return (0, None) if r == 1 else (None, -1)
    return (None, 0) if r == 1 else (1, None)


# Of the mark itself.
def check_span(tool, a, b, r):
    if tool.kind == INSTRUMENT:
        return (a - r - tool.e, b - r + tool.e)
    return (a, b)
