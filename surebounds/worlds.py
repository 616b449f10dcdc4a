"""The worlds of a book: its items' true sizes and its uses' marks.

A book comes to rows, each of them (low, high, most): the value at high is most
above the value at low, or less. Of such rows alone the bounds that follow are
whole numbers, and are taken, with every whole number between.
"""

from surebounds.tools import first_span, later_span

LEAST_SIZE = 1
MOST_SIZE = 4294967296

# The value that is 0 in every world, so that bounds are rows too.
GROUND = 0


class Use:

    # A check has no item: its span is that of the mark itself.
    def __init__(self, tool, item, span):
        self.tool = tool
        self.item = item
        self.span = span


def item_value(item):
    return item + 1


def mark_value(items, use):
    return items + 1 + use


def span_rows(low, high, span):
    rows = []
    if span[0] is not None:
        rows.append((high, low, -span[0]))
    if span[1] is not None:
        rows.append((low, high, span[1]))
    return rows


def use_rows(use, mark):
    if use.item is None:
        return span_rows(GROUND, mark, use.span)
    return span_rows(mark, item_value(use.item), use.span)


def count_values(items, uses):
    return 1 + items + len(uses)


def rows_of(items, tools, uses):
    rows = []
    for item in range(items):
        rows.extend(span_rows(GROUND, item_value(item), (LEAST_SIZE, MOST_SIZE)))
    before = {}
    for mark, use in enumerate(uses, start=mark_value(items, 0)):
        tool = tools[use.tool]
        if use.tool in before:
            rows.extend(span_rows(before[use.tool], mark, later_span(tool)))
        else:
            rows.extend(span_rows(GROUND, mark, first_span(tool)))
        before[use.tool] = mark
        rows.extend(use_rows(use, mark))
    return rows


def lower_once(rows, above):
    changed = False
    for low, high, most in rows:
        if above[low] is not None:
            reach = above[low] + most
            if above[high] is None or reach < above[high]:
                above[high] = reach
                changed = True
    return changed


# How far each value is above the one at start at the most; None if there is no world.
def most_above(rows, values, start):
    above = [None] * values
    above[start] = 0
    # A way that passes no value twice has fewer rows than there are values: what is still lowered behind
    # that many rounds goes round in a circle, and would be lowered without end.
    for turn in range(values):
        if not lower_once(rows, above):
            return above
    return None


def is_possible(items, tools, uses):
    rows = rows_of(items, tools, uses)
    return most_above(rows, count_values(items, uses), GROUND) is not None


# The least and the most that the value at high is above that at low, in a possible book.
def bounds_between(items, tools, uses, low, high):
    rows = rows_of(items, tools, uses)
    values = count_values(items, uses)
    least = -most_above(rows, values, high)[low]
    return (least, most_above(rows, values, low)[high])


def item_bounds(items, tools, uses, item):
    return bounds_between(items, tools, uses, GROUND, item_value(item))


# Of item j's true size, above item i's.
def apart_bounds(items, tools, uses, i, j):
    return bounds_between(items, tools, uses, item_value(i), item_value(j))


# Of the tool's mark at its next use, whatever that use will tell.
def next_mark_bounds(items, tools, uses, tool):
    # A use that tells nothing makes no world impossible, so every world goes on to it.
    silent = Use(tool, None, (None, None))
    return bounds_between(items, tools, uses + [silent], GROUND, mark_value(items, len(uses)))
