"""A net's arrows by themselves: who is joined, who descends from whom, and which meetings are open."""

from causebookdesk.variables import has, members


def neighbours(parents):
    near = list(parents)
    for child, group in enumerate(parents):
        for parent in members(parents, group):
            near[parent] |= 1 << child
    return near


# From the last variable down: what a child reaches is whole before it is handed on to its parents.
def descendants(parents):
    below = [1 << number for number in range(len(parents))]
    for child in range(len(parents) - 1, -1, -1):
        for parent in members(parents, parents[child]):
            below[parent] |= below[child]
    return below


# Each value has a group for every variable: its parents, those joined with it, its descendants.
class Arrows:

    def __init__(self, parents):
        self.parents = parents
        self.near = neighbours(parents)
        self.below = descendants(parents)


def all_arrows(net):
    return Arrows([variable.parents for variable in net])


def arrows_without(net, noin, noout):
    return Arrows([0 if has(noin, child) else variable.parents & ~noout for child, variable in enumerate(net)])


# At a variable with these parents: each pair of them that isn't joined, as a group of two.
def open_meetings(arrows, parents):
    meetings = []
    for one in members(arrows.near, parents):
        apart_from_one = parents & ~arrows.near[one]
        meetings.extend([1 << one | 1 << two for two in members(arrows.near, apart_from_one) if one < two])
    return meetings
