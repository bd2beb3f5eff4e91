"""What is told of the arrows of many nets, and what is drawn, told by another way of reckoning."""

import itertools
import random
import unittest

from tests.helper import ALL_JOINED, alike, apart, arrows, draw, enough, fewest, run, sure
from tests.test_oracle import Made, some_row

WORDS_END = 2 ** 64


def as_set(group):
    return {u for u in range(6) if group >> u & 1}


def as_group(variables):
    return sum(2 ** u for u in variables)


def pairs_of(parents):
    """The arrows as pairs of a parent and a child."""
    return {(u, v) for v, group in enumerate(parents) for u in as_set(group)}


def reached(pairs, starts):
    found = set(starts)
    while True:
        more = {v for u, v in pairs if u in found} - found
        if not more:
            return found
        found |= more


def linked(pairs, u, v):
    return (u, v) in pairs or (v, u) in pairs


def is_open(pairs, path, given):
    for u, v, w in zip(path, path[1:], path[2:]):
        if (u, v) in pairs and (w, v) in pairs:
            if not reached(pairs, {v}) & given:
                return False
        elif v in given:
            return False
    return True


def first_open_path(pairs, size, a, b, given):
    for length in range(2, size + 1):
        for path in itertools.permutations(range(size), length):
            if path[0] in a and path[-1] in b and all(linked(pairs, u, v) for u, v in zip(path, path[1:])):
                if is_open(pairs, path, given):
                    return list(path)
    return []


def separated(pairs, a, b, given):
    """Told without paths: those ahead of all three, parents of one child joined, and no way round given."""
    backward = {(v, u) for u, v in pairs}
    kept = reached(backward, a | b | given)
    near = {(u, v) for u, v in pairs if u in kept and v in kept}
    near |= {(u, w) for u, v in near for w, other in near if v == other and u != w}
    near |= {(v, u) for u, v in near}
    found = reached({(u, v) for u, v in near if v not in given}, a)
    return not found & b


def is_enough(pairs, x, y, z):
    """Told without paths that lead on: the first arrow of each is taken away, and nothing may be left."""
    on_the_way = {v for v in reached(pairs, {x}) - {x} if y in reached(pairs, {v})}
    if z & reached(pairs, on_the_way):
        return False
    return separated({(u, v) for u, v in pairs if not (u == x and v in on_the_way)}, {x}, {y}, z)


def open_meetings(pairs):
    return {(frozenset((u, w)), v) for u, v in pairs for w, other in pairs
            if v == other and u != w and not linked(pairs, u, w)}


def without_ring(pairs):
    left = set(pairs)
    while left:
        more = {(u, v) for u, v in left if u in {w for other, w in left}}
        if more == left:
            return False
        left = more
    return True


def sure_pairs(pairs):
    """Those arrows that every way to turn them leaves as they are, if the open meetings are to stay."""
    common = set(pairs)
    listed = sorted(pairs)
    for turned in itertools.product((False, True), repeat=len(listed)):
        other = {(v, u) if turn else (u, v) for turn, (u, v) in zip(turned, listed)}
        if not common <= other and open_meetings(other) == open_meetings(pairs) and without_ring(other):
            common &= other
    return common


def some_parents(dice, size, share):
    return [as_group(u for u in range(v) if dice.random() < share) for v in range(size)]


def some_sets(dice, size):
    """Three sets of variables, no two with one in common."""
    sets = [set() for which in range(6)]
    for u in range(size):
        dice.choice(sets).add(u)
    return sets[:3]


class ArrowsOracleTest(unittest.TestCase):
    def told(self, parents, calls):
        return run(arrows(0, parents) + calls)[len(parents):]

    def test_apart(self):
        dice = random.Random(9)
        lengths = {}
        for turn in range(250):
            size = dice.randint(3, 6)
            parents = some_parents(dice, size, dice.choice((0.3, 0.5, 0.8)))
            for again in range(4):
                a, b, given = some_sets(dice, size)
                noin, noout = [{u for u in range(size) if dice.random() < 0.1} for which in range(2)]
                pairs = {(u, v) for u, v in pairs_of(parents) if v not in noin and u not in noout}
                path = first_open_path(pairs, size, a, b, given)
                self.assertEqual(separated(pairs, a, b, given), path == [])
                call = apart(0, *[as_group(one) for one in (noin, noout, a, b, given)])
                self.assertEqual(self.told(parents, [call]), [[0] + path], (parents, call))
                lengths[len(path)] = lengths.get(len(path), 0) + 1
        for length in (0, 2, 3):
            self.assertGreater(lengths.get(length, 0), 20, lengths)

    def test_long_paths(self):
        dice = random.Random(10)
        lengths = {}
        for turn in range(600):
            # Single ends and few arrows make for long paths.
            parents = some_parents(dice, 6, 0.35)
            u, w = dice.sample(range(6), 2)
            given = set(dice.sample(sorted(set(range(6)) - {u, w}), dice.randint(0, 3)))
            path = first_open_path(pairs_of(parents), 6, {u}, {w}, given)
            call = apart(0, 0, 0, 2 ** u, 2 ** w, as_group(given))
            self.assertEqual(self.told(parents, [call]), [[0] + path], (parents, call))
            lengths[len(path)] = lengths.get(len(path), 0) + 1
        self.assertGreater(lengths.get(4, 0) + lengths.get(5, 0), 20, lengths)

    def test_enough_and_fewest(self):
        dice = random.Random(10)
        outcomes = {}
        for turn in range(200):
            size = dice.randint(2, 6)
            parents = some_parents(dice, size, dice.choice((0.3, 0.5, 0.8)))
            x, y = dice.sample(range(size), 2)
            among = dice.randrange(2 ** size)
            others = sorted(set(range(size)) - {x, y})
            sets = [set(row) for length in range(size - 1) for row in itertools.combinations(others, length)]
            right = [z for z in sets if is_enough(pairs_of(parents), x, y, z)]
            calls = [enough(0, x, y, as_group(z)) for z in sets] + [fewest(0, x, y, 2 ** size - 1)]
            calls += [fewest(0, x, y, among)]
            expected = [[0, 1 if z in right else 0] for z in sets]
            # Combinations come in order of their length, and those of one length in the order of rows.
            expected += [[0, as_group(right[0])] if right else [-4]]
            inside = [z for z in right if z <= as_set(among)]
            expected += [[0, as_group(inside[0])] if inside else [-4]]
            self.assertEqual(self.told(parents, calls), expected, (parents, x, y))
            for call, answer in zip(calls, expected):
                outcome = (call[0], answer[0], answer[-1] > 0)
                outcomes[outcome] = outcomes.get(outcome, 0) + 1
        for outcome in ((10, 0, False), (10, 0, True), (11, 0, False), (11, 0, True), (11, -4, False)):
            self.assertGreater(outcomes.get(outcome, 0), 20, outcomes)

    def test_alike(self):
        dice = random.Random(12)
        outcomes = {0: 0, 1: 0}
        for turn in range(600):
            size = dice.randint(2, 6)
            pairs = pairs_of(some_parents(dice, size, dice.choice((0.3, 0.5, 0.8))))
            # The second net has the same pairs under other numbers, turned so that parents have lower ones.
            names = dice.sample(range(size), size)
            others = {tuple(sorted((names[u], names[v]))) for u, v in pairs}
            if dice.random() < 0.1 and others:
                others.remove(dice.choice(sorted(others)))
            renamed = {(names[u], names[v]) for u, v in pairs}
            same = {frozenset(pair) for pair in renamed} == {frozenset(pair) for pair in others}
            answer = 1 if same and open_meetings(renamed) == open_meetings(others) else 0
            nets = [[as_group(u for u, v in net if v == number) for number in range(size)] for net in (pairs, others)]
            before = arrows(0, nets[0]) + arrows(1, nets[1])
            self.assertEqual(run(before + [alike(0, 1, names)])[-1], [0, answer], (nets, names))
            outcomes[answer] += 1
        self.assertGreater(min(outcomes.values()), 100, outcomes)

    def check_sure(self, parents):
        certain = sure_pairs(pairs_of(parents))
        expected = [[0, as_group(u for u, child in certain if child == v)] for v in range(len(parents))]
        self.assertEqual(self.told(parents, [sure(0, v) for v in range(len(parents))]), expected, parents)
        return certain

    def test_sure_in_every_net_of_up_to_4_variables(self):
        for size in range(1, 5):
            for parents in itertools.product(*[range(2 ** v) for v in range(size)]):
                self.check_sure(parents)

    def test_sure_in_greater_nets(self):
        dice = random.Random(13)
        some = 0
        for turn in range(60):
            parents = some_parents(dice, dice.choice((5, 6)), 0.45)
            if len(pairs_of(parents)) <= 9:
                certain = self.check_sure(parents)
                some += 0 < len(certain) < len(pairs_of(parents))
        self.assertGreater(some, 5)

    def test_all_joined_but_one_pair(self):
        for u, v in ((0, 1), (2, 3), (4, 5), (0, 5)):
            parents = list(ALL_JOINED)
            parents[v] -= 2 ** u
            # The two meet at each child of both. One ahead of both can't come behind such a child: they'd meet there too.
            certain = {(w, child) for child in range(v + 1, 6) for w in list(range(u)) + [u, v]}
            expected = [[0, as_group(w for w, other in certain if other == child)] for child in range(6)]
            self.assertEqual(self.told(parents, [sure(0, child) for child in range(6)]), expected, (u, v))


class DrawOracleTest(unittest.TestCase):
    def expected(self, net, forced, words):
        world = []
        left = list(words)
        for number, told in enumerate(forced):
            if told == -1:
                states, parents, weights = net.calls[number][2], net.parents[number], net.calls[number][5:]
                settings = list(itertools.product(*[range(net.sizes[u]) for u in parents]))
                place = settings.index(tuple(world[u] for u in parents)) * states
                sums = list(itertools.accumulate(weights[place:place + states]))
                while left and left[0] // sums[-1] == WORDS_END // sums[-1]:
                    left.pop(0)
                if not left:
                    return [-5]
                mark = left.pop(0) % sums[-1]
                told = len([one for one in sums if one <= mark])
            world.append(told)
        return [0, len(words) - len(left)] + world

    def test_many_nets(self):
        dice = random.Random(14)
        outcomes = {0: 0, -5: 0}
        for turn in range(300):
            net = Made(dice)
            calls = []
            expected = []
            for again in range(5):
                forced = some_row(dice, net, 0.2)
                words = [dice.choice((dice.randrange(8), dice.randrange(WORDS_END), WORDS_END - dice.randint(1, 5)))
                         for which in range(dice.randint(0, 10))]
                calls.append(draw(0, forced, words))
                expected.append(self.expected(net, forced, words))
                outcomes[expected[-1][0]] += 1
            self.assertEqual(run(net.calls + calls)[len(net.calls):], expected)
        self.assertGreater(min(outcomes.values()), 100, outcomes)


if __name__ == "__main__":
    unittest.main()
