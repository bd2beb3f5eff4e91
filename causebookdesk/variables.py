"""A net as the list of its variables, and the calls that build it and show it."""

from causebookdesk.outcomes import DONE, FULL, NONE_THERE, WRONG

MOST_VARIABLES = 6
MOST_STATES = 4
MOST_WORLDS = 512
MOST_TOTAL = 4294967295


# The table lies in weights row after row, as it is handed in and as look shows it.
class Variable:

    def __init__(self, states, parents, weights):
        self.states = states
        self.parents = parents
        self.weights = weights


def is_variable(net, number):
    return 0 <= number < len(net)


# A set of variables is called a group in the code, since set is Python's own name.
def is_group(net, number):
    return 0 <= number < 1 << len(net)


def has(group, number):
    return group >> number & 1 == 1


# Bits beyond the net don't count, so that a group from outside need not be cut down first.
def members(net, group):
    return [number for number in range(len(net)) if has(group, number)]


def count_settings(net, chosen):
    ways = 1
    for number in chosen:
        ways *= net[number].states
    return ways


def is_table(weights, rows, states):
    if len(weights) != rows * states or min(weights) < 0:
        return False
    totals = [sum(weights[start:start + states]) for start in range(0, len(weights), states)]
    return min(totals) == max(totals) and 1 <= totals[0] <= MOST_TOTAL


def has_room(net, states):
    if len(net) == MOST_VARIABLES:
        return False
    return count_settings(net, list(range(len(net)))) * states <= MOST_WORLDS


def clear(net):
    net.clear()
    return [DONE]


def add(net, states, parents, weights):
    if not 1 <= states <= MOST_STATES or not is_group(net, parents):
        return [WRONG]
    # Room is looked at before the table: a full net refuses a wrong table as it refuses a right one.
    if not has_room(net, states):
        return [FULL]
    if not is_table(weights, count_settings(net, members(net, parents)), states):
        return [WRONG]
    net.append(Variable(states, parents, list(weights)))
    return [DONE, len(net) - 1]


def drop(net):
    if len(net) == 0:
        return [NONE_THERE]
    net.pop()
    return [DONE, len(net)]


def look(net, number):
    if not is_variable(net, number):
        return [WRONG]
    variable = net[number]
    return [DONE, variable.states, variable.parents] + variable.weights


def count(net):
    return [DONE, len(net)]
