"""Open paths, and the calls that rest on them: apart, enough and fewest."""

from causebookdesk.arrows import all_arrows, arrows_without
from causebookdesk.outcomes import DONE, NONE_THERE, WRONG
from causebookdesk.variables import has, is_group, is_variable, members


def lets_through(arrows, given, before, middle, after):
    parents = arrows.parents[middle]
    if has(parents, before) and has(parents, after):
        return arrows.below[middle] & given != 0
    return not has(given, middle)


def lengthened(arrows, given, path):
    onward = [number for number in members(arrows.near, arrows.near[path[-1]]) if number not in path]
    if len(path) > 1:
        onward = [number for number in onward if lets_through(arrows, given, path[-2], path[-1], number)]
    return [path + [number] for number in onward]


# A path that is open is open up to each of its variables too, so all of them are found by lengthening.
# The shorter ones stand ahead, and those of one length in their order, if the starts rise.
def open_paths(arrows, given, starts):
    paths = []
    newest = [[start] for start in starts]
    while len(newest) > 0:
        longer = []
        for path in newest:
            longer.extend(lengthened(arrows, given, path))
        paths.extend(longer)
        newest = longer
    return paths


def apart(net, noin, noout, a, b, given):
    if not all([is_group(net, group) for group in (noin, noout, a, b, given)]):
        return [WRONG]
    if (a & b) | (a & given) | (b & given) != 0:
        return [WRONG]
    for path in open_paths(arrows_without(net, noin, noout), given, members(net, a)):
        if has(b, path[-1]):
            return [DONE] + path
    return [DONE]


def are_two(net, x, y):
    return is_variable(net, x) and is_variable(net, y) and x != y


def leads_on(arrows, path):
    return all([has(arrows.parents[path[place]], path[place - 1]) for place in range(1, len(path))])


# The descendants of those on the way: to know one of them would hide a part of what x brings about.
def barred_group(arrows, x, y):
    barred = 0
    for number in members(arrows.below, arrows.below[x]):
        if number != x and has(arrows.below[number], y):
            barred |= arrows.below[number]
    return barred


def is_enough(arrows, x, y, z):
    if z & barred_group(arrows, x, y) != 0:
        return False
    return all([leads_on(arrows, path) for path in open_paths(arrows, z, [x]) if path[-1] == y])


def enough(net, x, y, z):
    if not are_two(net, x, y) or not is_group(net, z) or has(z, x) or has(z, y):
        return [WRONG]
    return [DONE, 1 if is_enough(all_arrows(net), x, y, z) else 0]


# Those with fewer numbers stand ahead, and those with as many in their order.
def choices(numbers):
    found = [[]]
    for number in numbers:
        found = found + [row + [number] for row in found]
    return sorted(found, key=lambda chosen: (len(chosen), chosen))


def fewest(net, x, y, among):
    if not are_two(net, x, y) or not is_group(net, among):
        return [WRONG]
    arrows = all_arrows(net)
    for chosen in choices([number for number in members(net, among) if number not in (x, y)]):
        z = sum([1 << number for number in chosen])
        if is_enough(arrows, x, y, z):
            return [DONE, z]
    return [NONE_THERE]
