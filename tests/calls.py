"""Calls by name, and their answers one by one."""

from shapedpays.tables import answers

TEN_TO_30 = 10 ** 30


def begin(n, m, g, h):
    return [0, n, m, g, h]


def put(t, s, x, q, *row):
    return [1, t, s, x, q, len(row), *row]


def fill(t, *row):
    return [2, t, len(row), *row]


def payis(t, s, x, q):
    return [3, t, s, x, q]


def copy(t):
    return [4, t]


def shape(t, *row):
    return [5, t, len(row), *row]


def scale(t, c):
    return [6, t, c]


def potof(t):
    return [7, t]


def least(t, s, x, q):
    return [8, t, s, x, q]


def leastrow(t, s, x):
    return [9, t, s, x]


def alike():
    return [10]


def potentials():
    return [11]


def factor():
    return [12]


def far():
    return [13]


def differ():
    return [14]


def path(t, *row):
    return [15, t, len(row), *row]


def gap(*row):
    return [16, len(row), *row]


def swap():
    return [17]


def ifset(t, s, x, q, *row):
    return [18, t, s, x, q, len(row), *row]


def trivial(t):
    return [19, t]


def pays_of(t, n, m):
    """The calls that read a whole table."""
    return [payis(t, s, x, q) for s in range(n) for x in range(m) for q in range(n)]


def joined(calls):
    return [number for call in calls for number in call]


def split(told):
    """The answers of the single calls, each one as a list."""
    found = []
    at = 0
    while at < len(told):
        behind = at + 1 + told[at]
        if told[at] < 1 or behind > len(told):
            raise AssertionError("counts and answers don't fit: %r" % (told,))
        found.append(told[at + 1:behind])
        at = behind
    return found


def ask(*calls):
    return split(answers(joined(calls)))


def last(*calls):
    return ask(*calls)[-1]


def table(calls, t, n, m):
    """All pays of table t when the calls are done."""
    reads = pays_of(t, n, m)
    found = []
    # A list holds 60 calls at most, so a large table is read in two goes.
    for first in range(0, len(reads), 24):
        part = reads[first:first + 24]
        found.extend(pay for zero, pay in ask(*calls, *part)[len(calls):])
    return found
