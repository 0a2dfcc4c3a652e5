"""Calls and answers by name, so that a test's lines can be read."""

from sweptheap.hands import answers

MOST = 9223372036854775807
LEAST = -9223372036854775807

DONE = [1, 0]
NOTHING = [1, 0]
WRONG = [1, -1]
NO_SLOT = [1, -4]
NO_OBJECT = [1, -5]
FULL = [1, -6]


def new(r, n):
    return [0, r, n]


def get(d, r, k):
    return [1, d, r, k]


def put(r, k, d):
    return [2, r, k, d]


def num(r, z):
    return [3, r, z]


def clear(r):
    return [4, r]


def copy(r, d):
    return [5, r, d]


def look(r):
    return [6, r]


def number(z):
    """What look answers of the number z."""
    return [3, 1, 1, z]


def thing(n):
    """What look answers of an object with n slots."""
    return [3, 2, 1, n]


def joined(parts):
    return [value for part in parts for value in part]


def check(case, *pairs):
    """Pairs of a call and its answer: plays all calls as one list and compares the whole answer list."""
    case.assertLessEqual(len(pairs), 400)
    calls = joined(call for call, answer in pairs)
    case.assertEqual(answers(calls), joined(answer for call, answer in pairs))


def looks(*expected):
    """A pair for each register from 0 on, with what look answers of it."""
    return [(look(r), answer) for r, answer in enumerate(expected)]
