"""Assignments, the worlds of a net, and what each world weighs."""

from causebookdesk.variables import members

UNTOLD = -1


def is_assignment(net, row):
    if len(row) != len(net):
        return False
    return all([UNTOLD <= told < variable.states for variable, told in zip(net, row)])


def keeps(world, assignment):
    return all([told in (UNTOLD, state) for state, told in zip(world, assignment)])


# The worlds stand in their order, the one that comes first ahead, so that a first greatest one can be taken.
def all_worlds(net):
    worlds = [[]]
    for variable in net:
        longer = []
        for world in worlds:
            longer.extend([world + [state] for state in range(variable.states)])
        worlds = longer
    return worlds


# The parents have lower numbers: a world that is told only up to the variable is enough.
def row_start(net, number, world):
    variable = net[number]
    row = 0
    for parent in members(net, variable.parents):
        row = row * net[parent].states + world[parent]
    return row * variable.states


def weight_in_table(net, number, world):
    return net[number].weights[row_start(net, number, world) + world[number]]


# The assignment that the document calls set is called forced in the code, since set is Python's own name.
def world_weight(net, forced, world):
    if not keeps(world, forced):
        return 0
    product = 1
    for number, told in enumerate(forced):
        # What is set by hand owes nothing to its causes, so its table is left out.
        if told == UNTOLD:
            product *= weight_in_table(net, number, world)
    return product


def weighed_worlds(net, forced, seen):
    return [(world, world_weight(net, forced, world)) for world in all_worlds(net) if keeps(world, seen)]


def total_weight(weighed):
    return sum([weight for world, weight in weighed])
