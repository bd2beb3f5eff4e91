"""The calls that tell chances: chance, likeliest and ask."""

from causebookdesk.outcomes import DONE, IMPOSSIBLE, NONE_THERE, WRONG
from causebookdesk.variables import is_variable, members
from causebookdesk.worlds import UNTOLD, is_assignment, keeps, total_weight, weighed_worlds


# Where part is 0 the divisor stays whole, and so nothing is told as 0 1.
def lowest_terms(part, whole):
    divisor = whole
    rest = part
    while rest != 0:
        held = rest
        rest = divisor % rest
        divisor = held
    return [part // divisor, whole // divisor]


def chance(net, forced, seen, asked):
    if not all([is_assignment(net, row) for row in (forced, seen, asked)]):
        return [WRONG]
    weighed = weighed_worlds(net, forced, seen)
    whole = total_weight(weighed)
    if whole == 0:
        return [IMPOSSIBLE]
    part = total_weight([pair for pair in weighed if keeps(pair[0], asked)])
    return [DONE] + lowest_terms(part, whole)


def likeliest(net, forced, seen):
    if not is_assignment(net, forced) or not is_assignment(net, seen):
        return [WRONG]
    weighed = weighed_worlds(net, forced, seen)
    whole = total_weight(weighed)
    if whole == 0:
        return [IMPOSSIBLE]
    # Of several worlds of one weight max keeps the first, and they stand in their order.
    best = max(weighed, key=lambda pair: pair[1])
    return [DONE] + lowest_terms(best[1], whole) + best[0]


# All worths have one denominator, the weight of seen: so they are compared as whole weights.
def question_worth(net, weighed, target, question):
    worth = 0
    for state in range(net[question].states):
        by_target = [0] * net[target].states
        for world, weight in weighed:
            if world[question] == state:
                by_target[world[target]] += weight
        worth += max(by_target)
    return worth


def ask(net, target, among, seen):
    if not is_variable(net, target) or among < 0 or not is_assignment(net, seen):
        return [WRONG]
    if seen[target] != UNTOLD:
        return [WRONG]
    # The document tells "none to ask" ahead of "can't be", and so it is looked for first.
    questions = [number for number in members(net, among) if number != target and seen[number] == UNTOLD]
    if len(questions) == 0:
        return [NONE_THERE]
    weighed = weighed_worlds(net, [UNTOLD] * len(net), seen)
    whole = total_weight(weighed)
    if whole == 0:
        return [IMPOSSIBLE]
    worths = [question_worth(net, weighed, target, question) for question in questions]
    best = max(worths)
    return [DONE, questions[worths.index(best)]] + lowest_terms(best, whole)
