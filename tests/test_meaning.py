"""What is said of the arrows alone holds for the chances: with tables at random, and for just those sets."""

import itertools
import random
import unittest
from fractions import Fraction

from tests.helper import add, apart, chance, enough, run


class Tables:
    """A net of variables with two states each, and with tables that favour nothing by accident."""

    def __init__(self, dice, size):
        self.size = size
        self.calls = []
        for v in range(size):
            parents = [u for u in range(v) if dice.random() < 0.5]
            weights = []
            for row in range(2 ** len(parents)):
                weight = dice.randint(1, 999)
                weights += [weight, 1000 - weight]
            self.calls.append(add(0, 2, sum(2 ** u for u in parents), weights))

    def row(self, told):
        return [told.get(v, -1) for v in range(self.size)]

    def chance(self, forced, seen, asked):
        answer = run(self.calls + [chance(0, self.row(forced), self.row(seen), self.row(asked))])[-1]
        return Fraction(answer[1], answer[2])

    def told(self, call):
        return run(self.calls + [call])[-1]


def ways(variables):
    for states in itertools.product((0, 1), repeat=len(variables)):
        yield dict(zip(variables, states))


class MeaningTest(unittest.TestCase):
    def compare(self, seed, judge):
        """judge tells of a net, x, y and other variables: whether the call says so, and whether the chances do."""
        dice = random.Random(seed)
        found = {True: 0, False: 0}
        for turn in range(120):
            net = Tables(dice, 5)
            x, y = dice.sample(range(5), 2)
            others = [v for v in range(5) if v not in (x, y) and dice.random() < 0.4]
            said, same = judge(net, x, y, others)
            self.assertEqual(said, same, (net.calls, x, y, others))
            found[same] += 1
        # Both must have been met, or the comparison shows little.
        self.assertGreater(min(found.values()), 10)

    def test_apart_tell_nothing_of_one_another(self):
        def judge(net, x, y, given):
            call = apart(0, 0, 0, 2 ** x, 2 ** y, sum(2 ** v for v in given))
            same = all(net.chance({}, {x: 0, **seen}, {y: 0}) == net.chance({}, {x: 1, **seen}, {y: 0})
                       for seen in ways(given))
            return net.told(call) == [0], same
        self.compare(21, judge)

    def test_noin_is_to_set(self):
        def judge(net, x, y, given):
            call = apart(0, 2 ** x, 0, 2 ** x, 2 ** y, sum(2 ** v for v in given))
            same = all(net.chance({x: 0}, seen, {y: 0}) == net.chance({x: 1}, seen, {y: 0}) for seen in ways(given))
            return net.told(call) == [0], same
        self.compare(22, judge)

    def test_noout_is_whether_to_set_or_to_see(self):
        def judge(net, x, y, given):
            call = apart(0, 0, 2 ** x, 2 ** x, 2 ** y, 0)
            same = all(net.chance({x: state}, {}, {y: 0}) == net.chance({}, {x: state}, {y: 0}) for state in (0, 1))
            return net.told(call) == [0], same
        self.compare(23, judge)

    def test_enough_tells_what_setting_does_from_what_was_seen(self):
        def judge(net, x, y, z):
            same = True
            for state in (0, 1):
                mixed = sum(net.chance({}, {x: state, **seen}, {y: 0}) * net.chance({}, {}, seen) for seen in ways(z))
                same = same and mixed == net.chance({x: state}, {}, {y: 0})
            return net.told(enough(0, x, y, sum(2 ** v for v in z))) == [0, 1], same
        self.compare(24, judge)


if __name__ == "__main__":
    unittest.main()
