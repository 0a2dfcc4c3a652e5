"""Calls and answers by name, so that a test's lines can be read."""

from sweptheap.hands import answers

MOST = 9223372036854775807
LEAST = -9223372036854775807

DONE = [1, 0]
NOTHING = [1, 0]
NO = [1, 0]
YES = [1, 1]
IDLE = [1, 0]
MARKING = [1, 1]
SWEEPING = [1, 2]
WRONG = [1, -1]
BUSY = [1, -3]
NO_SLOT = [1, -4]
NO_OBJECT = [1, -5]
FULL = [1, -6]


def new(r, n):
    return [0, r, n]


def get(d, r, k):
    return [1, d, r, k]


def put(r, k, d):
    return [2, r, k, d]


def num(r, z):
    return [3, r, z]


def clear(r):
    return [4, r]


def copy(r, d):
    return [5, r, d]


def look(r):
    return [6, r]


def slot(r, k):
    return [7, r, k]


def same(r, d):
    return [8, r, d]


def tree(r):
    return [9, r]


def begin():
    return [10]


def work(n):
    return [11, n]


def phase():
    return [12]


def count():
    return [13]


def number(z):
    """What look answers of the number z."""
    return [3, 1, 1, z]


def thing(n):
    """What look answers of an object with n slots."""
    return [3, 2, 1, n]


def steps(n):
    """What work answers of n steps."""
    return [1, n]


def counted(used, live):
    """What count answers."""
    return [3, used, 1, live]


def met(*objects):
    """What tree answers; an object is the list of its slots: None, a number, or a text with which object it is."""
    told = []
    for slots in objects:
        told.append(len(slots))
        for value in slots:
            if value is None:
                told += [0, 0]
            elif isinstance(value, str):
                told += [2, int(value)]
            else:
                told += [1, value]
    return [2 + len(told), len(objects), len(told)] + told


def joined(parts):
    return [value for part in parts for value in part]


def compare(case, told, expected):
    """Fails at the first place that differs: unittest's own diff of two long lists may take minutes."""
    if told == expected:
        return
    place = 0
    while place < min(len(told), len(expected)) and told[place] == expected[place]:
        place += 1
    case.fail(f"from place {place} on {told[place:place + 9]} in the place of {expected[place:place + 9]}")


def check(case, *pairs):
    """Pairs of a call and its answer: plays all calls as one list and compares the whole answer list."""
    case.assertLessEqual(len(pairs), 400)
    calls = joined(call for call, answer in pairs)
    compare(case, answers(calls), joined(answer for call, answer in pairs))


def play(calls):
    """The answer of each call, by itself, without how many numbers it has."""
    assert len(calls) <= 400
    told = answers(joined(calls))
    heard = []
    while told:
        assert 1 <= told[0] < len(told)
        heard.append(told[1:1 + told[0]])
        told = told[1 + told[0]:]
    return heard


def looks(*expected):
    """A pair for each register from 0 on, with what look answers of it."""
    return [(look(r), answer) for r, answer in enumerate(expected)]
