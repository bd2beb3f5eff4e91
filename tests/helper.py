"""Writes calls as lists of numbers, and takes the answers apart again."""

import unittest

from causebookdesk.nets import answers

FAR = 2 ** 64
OUTSIDE = (-FAR, -1, 2, FAR)


def counted(row):
    return [len(row)] + list(row)


def clear(d):
    return [1, d]


def add(d, states, parents, weights):
    return [2, d, states, parents] + counted(weights)


def drop(d):
    return [3, d]


def look(d, v):
    return [4, d, v]


def chance(d, forced, seen, asked):
    return [5, d] + counted(forced) + counted(seen) + counted(asked)


def likeliest(d, forced, seen):
    return [6, d] + counted(forced) + counted(seen)


def ask(d, target, among, seen):
    return [7, d, target, among] + counted(seen)


def draw(d, forced, words):
    return [8, d] + counted(forced) + counted(words)


def apart(d, noin, noout, a, b, given):
    return [9, d, noin, noout, a, b, given]


def enough(d, x, y, z):
    return [10, d, x, y, z]


def fewest(d, x, y, among):
    return [11, d, x, y, among]


def alike(d, e, names):
    return [12, d, e] + counted(names)


def sure(d, v):
    return [13, d, v]


def count(d):
    return [14, d]


def arrows(d, parents):
    """A net of which only the arrows matter: variables of one state each, with these sets of parents."""
    return [add(d, 1, group, [1]) for group in parents]


def split(told):
    """The answers, each a list of its own."""
    parts = []
    place = 0
    while place < len(told):
        end = place + 1 + told[place]
        parts.append(told[place + 1:end])
        place = end
    if place != len(told):
        raise AssertionError("the last answer is shorter than its count")
    return parts


def run(calls):
    """What each of the calls answers, on a new object."""
    return split(answers([number for call in calls for number in call]))


def last(calls):
    return run(calls)[-1]


def looks():
    """Shows all there is in both nets: a look at each number that a variable may have."""
    return [look(d, v) for d in (0, 1) for v in range(6)]


# Rain hangs on nothing; the sprinkler on the rain; wet grass on both, rain changing slowest.
RAIN = [1, 4]
SPRINKLER = [3, 7, 9, 1]
WET = [10, 0, 4, 6, 3, 7, 1, 9]


def garden(d):
    """State 1 is yes: it rained, the sprinkler ran, the grass is wet."""
    return [add(d, 2, 0, RAIN), add(d, 2, 1, SPRINKLER), add(d, 2, 3, WET)]


# All six variables joined with one another.
ALL_JOINED = [0, 1, 3, 7, 15, 31]


class CallTest(unittest.TestCase):
    def check_told(self, before, call, answer):
        """The call answers this, and both nets are as they were."""
        parts = run(before + looks() + [call] + looks())
        length = len(before)
        self.assertEqual(parts[length + 12], answer, call)
        self.assertEqual(parts[length:length + 12], parts[length + 13:], call)

    def check_refused(self, before, call, refusal):
        self.check_told(before, call, [refusal])
