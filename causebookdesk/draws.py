"""The call that draws a world from words: draw."""

from causebookdesk.outcomes import DONE, TOO_FEW, WRONG
from causebookdesk.worlds import UNTOLD, is_assignment, row_start

MOST_WORDS = 40
WORDS_END = 18446744073709551616


def are_words(words):
    return len(words) <= MOST_WORDS and all([0 <= word < WORDS_END for word in words])


# Words from the last whole multiple of the total on would make the low rests likelier, so they are passed by.
def next_fit(words, place, total):
    end = WORDS_END - WORDS_END % total
    while place < len(words) and words[place] >= end:
        place += 1
    return place


def state_at(row, mark):
    state = 0
    reached = row[0]
    while reached <= mark:
        state += 1
        reached += row[state]
    return state


def draw(net, forced, words):
    if not is_assignment(net, forced) or not are_words(words):
        return [WRONG]
    world = []
    taken = 0
    for number, told in enumerate(forced):
        if told != UNTOLD:
            world.append(told)
            continue
        start = row_start(net, number, world)
        row = net[number].weights[start:start + net[number].states]
        total = sum(row)
        place = next_fit(words, taken, total)
        if place == len(words):
            return [TOO_FEW]
        world.append(state_at(row, words[place] % total))
        taken = place + 1
    return [DONE, taken] + world
