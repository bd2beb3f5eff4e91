"""Chances, likeliest worlds and questions of many nets, told by another way of reckoning."""

import itertools
import random
import unittest
from fractions import Fraction

from tests.helper import add, ask, chance, likeliest, run


class Made:
    """A net with tables as dicts from the parents' states to chances."""

    def __init__(self, dice):
        self.calls = []
        self.sizes = []
        self.parents = []
        self.tables = []
        for turn in range(dice.randint(0, 6)):
            states = dice.choice((1, 2, 2, 3, 4))
            worlds = states
            for size in self.sizes:
                worlds *= size
            if worlds <= 512:
                self.grow(dice, states)
        self.worlds = list(itertools.product(*[range(size) for size in self.sizes]))

    def grow(self, dice, states):
        number = len(self.sizes)
        parents = [u for u in range(number) if dice.random() < 0.5]
        total = dice.choice((1, 2, 6, 2 ** 32 - 1))
        table = {}
        weights = []
        for setting in itertools.product(*[range(self.sizes[u]) for u in parents]):
            cuts = sorted(dice.randint(0, total) for turn in range(states - 1))
            row = [high - low for low, high in zip([0] + cuts, cuts + [total])]
            weights += row
            for state, weight in enumerate(row):
                table[setting, state] = Fraction(weight, total)
        self.calls.append(add(0, states, sum(2 ** u for u in parents), weights))
        self.sizes.append(states)
        self.parents.append(parents)
        self.tables.append(table)

    def likelihood(self, forced, world):
        product = Fraction(1)
        for number, state in enumerate(world):
            if forced[number] == -1:
                product *= self.tables[number][tuple(world[u] for u in self.parents[number]), state]
            elif forced[number] != state:
                return Fraction(0)
        return product

    def spread(self, forced, seen):
        """The chance of each world given seen, or None where seen can't be."""
        shares = {world: self.likelihood(forced, world) for world in self.worlds if fits(world, seen)}
        whole = sum(shares.values())
        return {world: share / whole for world, share in shares.items()} if whole else None


def fits(world, row):
    return not [1 for state, told in zip(world, row) if told >= 0 and told != state]


def told(fraction):
    return [fraction.numerator, fraction.denominator]


def expected_chance(net, forced, seen, asked):
    shares = net.spread(forced, seen)
    if shares is None:
        return [-3]
    return [0] + told(sum((share for world, share in shares.items() if fits(world, asked)), Fraction(0)))


def expected_likeliest(net, forced, seen):
    shares = net.spread(forced, seen)
    if shares is None:
        return [-3]
    best = sorted(shares, key=lambda world: (-shares[world], world))[0]
    return [0] + told(shares[best]) + list(best)


def expected_ask(net, target, among, seen):
    if seen[target] != -1:
        return [-1]
    questions = [v for v in range(len(net.sizes)) if among // 2 ** v % 2 and v != target and seen[v] == -1]
    if not questions:
        return [-4]
    shares = net.spread([-1] * len(net.sizes), seen)
    if shares is None:
        return [-3]
    ranked = []
    for v in questions:
        joint = {}
        for world, share in shares.items():
            joint[world[v], world[target]] = joint.get((world[v], world[target]), 0) + share
        worth = sum(max(joint.get((s, t), 0) for t in range(net.sizes[target])) for s in range(net.sizes[v]))
        ranked.append((-worth, v))
    worth, best = min(ranked)
    return [0, best] + told(Fraction(-worth))


def some_row(dice, net, share):
    return [dice.randrange(size) if dice.random() < share else -1 for size in net.sizes]


class OracleTest(unittest.TestCase):
    def test_many_nets(self):
        dice = random.Random(31)
        outcomes = {}
        for turn in range(150):
            net = Made(dice)
            calls = []
            expected = []
            for again in range(5):
                forced, seen, asked = [some_row(dice, net, share) for share in (0.2, 0.3, 0.4)]
                calls += [chance(0, forced, seen, asked), likeliest(0, forced, seen)]
                expected += [expected_chance(net, forced, seen, asked), expected_likeliest(net, forced, seen)]
                if net.sizes:
                    target = dice.randrange(len(net.sizes))
                    among = dice.randrange(128)
                    calls.append(ask(0, target, among, seen))
                    expected.append(expected_ask(net, target, among, seen))
            self.assertEqual(run(net.calls + calls)[len(net.calls):], expected)
            for call, answer in zip(calls, expected):
                outcomes[call[0], answer[0]] = outcomes.get((call[0], answer[0]), 0) + 1
        # Each call must have been met with each of its outcomes, or the comparison shows little.
        for outcome in ((5, 0), (5, -3), (6, 0), (6, -3), (7, 0), (7, -1), (7, -3), (7, -4)):
            self.assertGreater(outcomes.get(outcome, 0), 5, outcome)


if __name__ == "__main__":
    unittest.main()
