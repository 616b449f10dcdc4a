"""The calls on one bench, as one list of whole numbers, and their answers as another."""

from surebounds.book import Book
from surebounds.tools import Tool

ITEM = 1
TOOL = 2
READ = 3
CHECK = 4
KNOWN = 5
NEXT = 6
JUDGE = 7
APART = 8
BACK = 9
COUNTS = 10

# How many whole numbers stand behind a call's own; an item has a row there, which tells its length itself.
# (The names above can't stand in it: a file's top holds plain values.)
NUMBERS = {2: 5, 3: 3, 4: 4, 5: 1, 6: 1, 7: 1, 8: 2, 9: 1, 10: 0}


class NoSuchCall(ValueError):
    pass


def call_end(calls, at):
    if calls[at] == ITEM:
        return at + 2 + calls[at + 1]
    return at + 1 + NUMBERS.get(calls[at], 0)


# What is answered to a call that leaves the bench as it is.
def told(book, call):
    if call[0] == KNOWN:
        return book.known(call[1])
    if call[0] == NEXT:
        return book.upcoming(call[1])
    if call[0] == JUDGE:
        return book.judge(call[1])
    if call[0] == APART:
        return book.apart(call[1], call[2])
    if call[0] == COUNTS:
        return book.counts()
    raise NoSuchCall(call[0])


def answer_of(book, call):
    if call[0] == ITEM:
        return book.add_item(call[2:])
    if call[0] == TOOL:
        return book.add_tool(Tool(call[1], call[2], call[3], call[4], call[5]))
    if call[0] == READ:
        return book.read(call[1], call[2], call[3])
    if call[0] == CHECK:
        return book.check(call[1], call[2], call[3], call[4])
    if call[0] == BACK:
        return book.back(call[1])
    return told(book, call)


def answers(calls):
    book = Book()
    answered = []
    at = 0
    while at < len(calls):
        end = call_end(calls, at)
        answer = answer_of(book, calls[at:end])
        answered.append(len(answer))
        answered.extend(answer)
        at = end
    return answered
