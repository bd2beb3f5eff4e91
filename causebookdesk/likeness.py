"""The calls that compare sets of arrows by joined pairs and open meetings: alike and sure."""

from causebookdesk.arrows import all_arrows, open_meetings
from causebookdesk.outcomes import DONE, WRONG
from causebookdesk.variables import has, is_variable, members


def renamed(group, names):
    return sum([1 << names[number] for number in members(names, group)])


def are_alike(arrows, others, names):
    for number, name in enumerate(names):
        if renamed(arrows.near[number], names) != others.near[name]:
            return False
        meetings = [renamed(pair, names) for pair in open_meetings(arrows, arrows.parents[number])]
        if sorted(meetings) != sorted(open_meetings(others, others.parents[name])):
            return False
    return True


# What the document calls map is called names in the code, since map is Python's own name.
def alike(net, other, names):
    if sorted(names) != list(range(len(net))):
        return [WRONG]
    if len(other) != len(net):
        return [DONE, 0]
    return [DONE, 1 if are_alike(all_arrows(net), all_arrows(other), names) else 0]


# Without a ring the variables can be placed one after another, each arrow leading to the one placed later.
# So a variable's parents are settled when it is placed, and with them the open meetings there.
def may_be_next(arrows, placed, number):
    meetings = open_meetings(arrows, arrows.near[number] & placed)
    return meetings == open_meetings(arrows, arrows.parents[number])


def next_ones(arrows, placed):
    left = [number for number in range(len(arrows.near)) if not has(placed, number)]
    return [number for number in left if may_be_next(arrows, placed, number)]


# For each group, whether its variables can be placed ahead of all others.
def beginnings(steps):
    begun = [False] * len(steps)
    begun[0] = True
    for placed, numbers in enumerate(steps):
        if begun[placed]:
            for number in numbers:
                begun[placed | 1 << number] = True
    return begun


# For each group, whether all others can be placed behind it.
def endings(steps):
    ended = [False] * len(steps)
    ended[-1] = True
    for placed in range(len(steps) - 2, -1, -1):
        ended[placed] = any([ended[placed | 1 << number] for number in steps[placed]])
    return ended


def sure(net, v):
    if not is_variable(net, v):
        return [WRONG]
    arrows = all_arrows(net)
    steps = [next_ones(arrows, placed) for placed in range(1 << len(net))]
    begun = beginnings(steps)
    ended = endings(steps)
    parents = arrows.parents[v]
    for placed in range(len(steps)):
        if begun[placed] and v in steps[placed] and ended[placed | 1 << v]:
            parents &= placed
    return [DONE, parents]
