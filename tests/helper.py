"""Writes calls as lists of numbers, and takes the answers apart again."""

import unittest

from causebookdesk.nets import answers

FAR = 2 ** 64
OUTSIDE = (-FAR, -1, 2, FAR)


def counted(row):
    return [len(row)] + list(row)


def clear(d):
    return [1, d]


def add(d, states, parents, weights):
    return [2, d, states, parents] + counted(weights)


def drop(d):
    return [3, d]


def look(d, v):
    return [4, d, v]


def chance(d, forced, seen, asked):
    return [5, d] + counted(forced) + counted(seen) + counted(asked)


def likeliest(d, forced, seen):
    return [6, d] + counted(forced) + counted(seen)


def ask(d, target, among, seen):
    return [7, d, target, among] + counted(seen)


def split(told):
    """The answers, each a list of its own."""
    parts = []
    place = 0
    while place < len(told):
        end = place + 1 + told[place]
        parts.append(told[place + 1:end])
        place = end
    if place != len(told):
        raise AssertionError("the last answer is shorter than its count")
    return parts


def run(calls):
    """What each of the calls answers, on a new object."""
    return split(answers([number for call in calls for number in call]))


def last(calls):
    return run(calls)[-1]


def looks():
    """Shows all there is in both nets: a look at each number that a variable may have."""
    return [look(d, v) for d in (0, 1) for v in range(6)]


# Rain hangs on nothing; the sprinkler on the rain; wet grass on both, rain changing slowest.
RAIN = [1, 4]
SPRINKLER = [3, 7, 9, 1]
WET = [10, 0, 4, 6, 3, 7, 1, 9]


def garden(d):
    """State 1 is yes: it rained, the sprinkler ran, the grass is wet."""
    return [add(d, 2, 0, RAIN), add(d, 2, 1, SPRINKLER), add(d, 2, 3, WET)]


class CallTest(unittest.TestCase):
    def check_refused(self, before, call, refusal):
        """The call answers the refusal alone, and both nets are as they were."""
        parts = run(before + looks() + [call] + looks())
        count = len(before)
        self.assertEqual(parts[count + 12], [refusal], call)
        self.assertEqual(parts[count:count + 12], parts[count + 13:], call)
