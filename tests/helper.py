"""Calls as lists of whole numbers, answers taken apart again."""

from surebounds.bench import answers

LIMIT = 8589934592
READING = 1099511627776
FAR = 4398046511104
MOST = 4294967296
WORD = 4294967295


def item_bytes(numbers):
    return [1, len(numbers)] + list(numbers)


def item(text):
    return item_bytes([ord(sign) for sign in text])


def tool(kind, lo, hi, e, d):
    return [2, kind, lo, hi, e, d]


def read(number, part, r):
    return [3, number, part, r]


def check(number, a, b, r):
    return [4, number, a, b, r]


def known(part):
    return [5, part]


def coming(number):
    """The call next, whose name is one of Python's own."""
    return [6, number]


def judge(part):
    return [7, part]


def apart(part, other):
    return [8, part, other]


def back(uses):
    return [9, uses]


def counts():
    return [10]


def everything(items, tools):
    """All that a bench tells without being changed."""
    calls = [known(part) for part in range(items)] + [judge(part) for part in range(items)]
    calls = calls + [coming(number) for number in range(tools)]
    return calls + [apart(i, j) for i in range(items) for j in range(items)] + [counts()]


def split(answered):
    found = []
    at = 0
    while at < len(answered):
        end = at + 1 + answered[at]
        found.append(answered[at + 1:end])
        at = end
    if at != len(answered):
        raise AssertionError("the last answer is cut off")
    return found


def flat(calls):
    return [number for call in calls for number in call]


def ask(calls):
    """Answer to each of the calls, given as a list of lists."""
    if len(calls) > 400 or len(flat(calls)) > 23000:
        raise AssertionError("more calls, or more numbers, than the interface allows")
    found = split(answers(flat(calls)))
    if len(found) != len(calls):
        raise AssertionError("as many answers as calls are asked for")
    return found


def last(calls):
    return ask(calls)[-1]
