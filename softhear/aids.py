"""Calls on a pair of hearing aids, written as one list of whole numbers, and their answers as another."""

from softhear.calls import answer
from softhear.pair import Pair

# By a call's number: how many whole numbers it has, and how many rows behind them.
SHAPES = ((0, 0), (1, 1), (2, 0), (2, 0), (2, 1), (3, 0), (1, 1), (3, 0), (3, 0), (2, 0), (3, 0), (1, 1),
          (2, 1), (2, 0), (2, 0), (1, 0), (0, 0), (0, 1), (0, 1), (0, 2), (0, 1), (0, 2), (0, 2), (1, 1))


def answers(calls):
    """For each call, in order: how many numbers are answered, and these."""
    pair = Pair()
    told = []
    at = 0
    while at < len(calls):
        number = calls[at]
        shape = SHAPES[number]
        start = at + 1 + shape[0]
        rows = rows_from(calls, start, shape[1])
        row = answer(pair, number, calls[at + 1:start], rows)
        told.append(len(row))
        told.extend(row)
        at = start + sum([1 + len(each) for each in rows])
    return told


def rows_from(calls, start, how_many):
    """The rows that stand there one behind another, each with its length before it."""
    rows = []
    at = start
    for k in range(how_many):
        end = at + 1 + calls[at]
        rows.append(calls[at + 1:end])
        at = end
    return rows
