"""A list of calls on two nets, and the list of what they answer."""

from causebookdesk.chances import ask, chance, likeliest
from causebookdesk.outcomes import WRONG
from causebookdesk.variables import add, clear, drop, look

# By a call's number: how many whole numbers it takes, and how many rows behind them.
SHAPES = {
    1: (1, 0),
    2: (3, 1),
    3: (1, 0),
    4: (2, 0),
    5: (1, 3),
    6: (1, 2),
    7: (3, 1),
}


# The list of calls belongs to the caller: a place moves along it, and nothing is taken out.
class Reader:

    def __init__(self, numbers):
        self.numbers = numbers
        self.place = 0

    def has_more(self):
        return self.place < len(self.numbers)

    def take(self):
        self.place += 1
        return self.numbers[self.place - 1]

    def take_row(self):
        length = self.take()
        self.place += length
        return self.numbers[self.place - length:self.place]


# Every call's first whole number is d, so it is looked at once for all of them.
def answer_call(nets, call, plain, rows):
    if plain[0] not in (0, 1):
        return [WRONG]
    net = nets[plain[0]]
    if call == 1:
        return clear(net)
    if call == 2:
        return add(net, plain[1], plain[2], rows[0])
    if call == 3:
        return drop(net)
    if call == 4:
        return look(net, plain[1])
    if call == 5:
        return chance(net, rows[0], rows[1], rows[2])
    if call == 6:
        return likeliest(net, rows[0], rows[1])
    return ask(net, plain[1], plain[2], rows[0])


def answers(calls):
    nets = [[], []]
    reader = Reader(calls)
    told = []
    while reader.has_more():
        call = reader.take()
        shape = SHAPES[call]
        plain = [reader.take() for turn in range(shape[0])]
        rows = [reader.take_row() for turn in range(shape[1])]
        answer = answer_call(nets, call, plain, rows)
        told.append(len(answer))
        told.extend(answer)
    return told
