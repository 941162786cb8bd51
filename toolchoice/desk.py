"""Where a line of calls is handed in and its answers are given back."""

from toolchoice.acts import CALLS
from toolchoice.stock import Stock


def rows_from(calls, start, row_count):
    """Copies of the rows that lie from start on, each with its length ahead of it."""
    rows = []
    at = start
    while len(rows) < row_count:
        end = at + 1 + calls[at]
        rows.append(calls[at + 1:end])
        at = end
    return rows


def answers(calls):
    """For each call on a new object, in order: how many numbers it answers, and these."""
    stock = Stock()
    told = []
    at = 0
    while at < len(calls):
        form = CALLS[calls[at]]
        start = at + 1 + form[0]
        numbers = calls[at + 1:start]
        rows = rows_from(calls, start, form[1])
        at = start + len(rows) + sum([len(row) for row in rows])
        act = form[2]
        answer = act(stock, numbers, rows)
        told.append(len(answer))
        told.extend(answer)
    return told
