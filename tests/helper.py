"""Calls written by name, and answers taken apart again."""

from letgostore.store import answers

LEAST = -2147483648
MOST = 2147483647


def cell(v, *fields):
    return [1, v, len(fields), *fields]


def num(v, z):
    return [2, v, z]


def move(v, u):
    return [3, v, u]


def clear(v):
    return [4, v]


def get(v, u, i):
    return [5, v, u, i]


def put(u, i, v):
    return [6, u, i, v]


def weak(v, u):
    return [7, v, u]


def held(v, u):
    return [8, v, u]


def keyed(v, k, x):
    return [9, v, k, x]


def found(v, u, k):
    return [10, v, u, k]


def last_word(u, z):
    return [11, u, z]


def words():
    return [12]


def young():
    return [13]


def slice_of(n):
    return [14, n]


def counts():
    return [15]


def shape(u):
    return [16, u]


def same(u, v):
    return [17, u, v]


# Behind these, what is kept is old.
GROWN = [young(), young()]


def joined(calls):
    return [number for call in calls for number in call]


def taken_apart(given):
    parts = []
    at = 0
    while at < len(given):
        parts.append(given[at + 1:at + 1 + given[at]])
        at += 1 + given[at]
    return parts


def run(*calls):
    """The answer of each call, as a list of lists."""
    return taken_apart(answers(joined(calls)))


def last(*calls):
    """The answer of the last call."""
    return run(*calls)[-1]


def churn(count=20, v=15):
    """Cells that nobody keeps but the last: `count` calls that make one each in variable v."""
    return [cell(v)] * count


def chain(count, v=0):
    """Cells each of which holds the one before it; the first holds what v held."""
    return [cell(v, 1, v)] * count


def aged(v=14):
    """Calls with two rounds at least among them: what was kept ahead of them and still is, is old then."""
    return churn(60, v)
