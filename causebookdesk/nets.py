"""A list of calls on two nets, and the list of what they answer."""

from causebookdesk.chances import ask, chance, likeliest
from causebookdesk.draws import draw
from causebookdesk.likeness import alike, sure
from causebookdesk.outcomes import WRONG
from causebookdesk.paths import apart, enough, fewest
from causebookdesk.variables import add, clear, count, drop, look

# By a call's number: how many whole numbers it takes, and how many rows behind them.
SHAPES = {
    1: (1, 0),
    2: (3, 1),
    3: (1, 0),
    4: (2, 0),
    5: (1, 3),
    6: (1, 2),
    7: (3, 1),
    8: (1, 2),
    9: (6, 0),
    10: (4, 0),
    11: (4, 0),
    12: (2, 1),
    13: (2, 0),
    14: (1, 0),
}


# The list of calls belongs to the caller: a place moves along it, and nothing is taken out.
class Reader:

    def __init__(self, numbers):
        self.numbers = numbers
        self.place = 0

    def has_more(self):
        return self.place < len(self.numbers)

    def take(self):
        self.place += 1
        return self.numbers[self.place - 1]

    def take_row(self):
        length = self.take()
        self.place += length
        return self.numbers[self.place - length:self.place]


def answer_of_tables(net, call, plain, rows):
    if call == 1:
        return clear(net)
    if call == 2:
        return add(net, plain[1], plain[2], rows[0])
    if call == 3:
        return drop(net)
    if call == 4:
        return look(net, plain[1])
    if call == 5:
        return chance(net, rows[0], rows[1], rows[2])
    if call == 6:
        return likeliest(net, rows[0], rows[1])
    if call == 7:
        return ask(net, plain[1], plain[2], rows[0])
    return draw(net, rows[0], rows[1])


def answer_of_arrows(net, call, plain):
    if call == 9:
        return apart(net, plain[1], plain[2], plain[3], plain[4], plain[5])
    if call == 10:
        return enough(net, plain[1], plain[2], plain[3])
    if call == 11:
        return fewest(net, plain[1], plain[2], plain[3])
    if call == 13:
        return sure(net, plain[1])
    return count(net)


# Every call's first whole number is d, so it is looked at once for all of them.
def answer_call(nets, call, plain, rows):
    if plain[0] not in (0, 1):
        return [WRONG]
    net = nets[plain[0]]
    if call == 12:
        if plain[1] not in (0, 1):
            return [WRONG]
        return alike(net, nets[plain[1]], rows[0])
    if call <= 8:
        return answer_of_tables(net, call, plain, rows)
    return answer_of_arrows(net, call, plain)


def answers(calls):
    nets = [[], []]
    reader = Reader(calls)
    told = []
    while reader.has_more():
        call = reader.take()
        shape = SHAPES[call]
        plain = [reader.take() for turn in range(shape[0])]
        rows = [reader.take_row() for turn in range(shape[1])]
        answer = answer_call(nets, call, plain, rows)
        told.append(len(answer))
        told.extend(answer)
    return told
