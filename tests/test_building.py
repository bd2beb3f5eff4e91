"""Promises 1 to 3, look and count: clear, add, drop, look, count."""

import unittest

from tests.helper import (ALL_JOINED, FAR, OUTSIDE, RAIN, SPRINKLER, WET, CallTest, add, arrows, chance, clear, count,
                          drop, garden, last, look, looks, run)

MOST_TOTAL = 2 ** 32 - 1


def single(states=1):
    """A variable without parents, all of whose weight lies on its first state."""
    return add(0, states, 0, [1] + [0] * (states - 1))


class ClearTest(CallTest):
    def test_clear_takes_all_variables(self):
        parts = run(garden(0) + [clear(0)] + [look(0, v) for v in range(3)])
        self.assertEqual(parts[3:], [[0], [-1], [-1], [-1]])

    def test_clear_of_a_net_without_variables(self):
        self.assertEqual(run([clear(0), clear(1)]), [[0], [0]])

    def test_numbers_begin_anew_after_clear(self):
        self.assertEqual(last(garden(0) + [clear(0), single()]), [0, 0])

    def test_clear_leaves_the_other_net(self):
        for d in (0, 1):
            parts = run(garden(0) + garden(1) + [clear(d), look(1 - d, 2), look(d, 0)])
            self.assertEqual(parts[6:], [[0], [0, 2, 3] + WET, [-1]])

    def test_which_net(self):
        for d in OUTSIDE:
            self.check_refused(garden(0) + garden(1), clear(d), -1)


class AddTest(CallTest):
    def test_numbers_rise(self):
        self.assertEqual(run(garden(0)), [[0, 0], [0, 1], [0, 2]])

    def test_each_net_numbers_by_itself(self):
        parts = run(garden(1) + garden(0) + looks())
        self.assertEqual(parts[:6], [[0, 0], [0, 1], [0, 2]] * 2)
        shown = [[0, 2, 0] + RAIN, [0, 2, 1] + SPRINKLER, [0, 2, 3] + WET, [-1], [-1], [-1]]
        self.assertEqual(parts[6:], shown * 2)

    def test_from_1_to_4_states(self):
        for states in (1, 2, 3, 4):
            weights = list(range(states))
            weights[0] = 1
            parts = run([add(0, states, 0, weights), look(0, 0)])
            self.assertEqual(parts, [[0, 0], [0, states, 0] + weights])

    def test_wrong_states(self):
        for states in (-FAR, -1, 0, 5, FAR):
            self.check_refused([], add(0, states, 0, [1] * max(0, min(states, 5))), -1)

    def test_wrong_net(self):
        for d in OUTSIDE:
            self.check_refused(garden(0) + garden(1), add(d, 1, 0, [1]), -1)

    def test_parents_must_be_there(self):
        self.check_refused([], add(0, 1, 1, [1]), -1)
        self.assertEqual(last(garden(0) + [add(0, 1, 7, [1] * 8)]), [0, 3])
        for parents in (-FAR, -1, 8, 15, FAR - 1, FAR):
            self.check_refused(garden(0), add(0, 1, parents, [1]), -1)
            self.check_refused(garden(0), add(0, 1, parents, [1] * 8), -1)

    def test_parents_are_those_of_the_same_net(self):
        self.check_refused(garden(0), add(1, 1, 1, [1, 1]), -1)

    def test_up_to_6_variables(self):
        parts = run([single()] * 7)
        self.assertEqual(parts, [[0, v] for v in range(6)] + [[-2]])

    def test_a_seventh_variable(self):
        self.check_refused([single()] * 6, single(), -2)
        self.check_refused([single()] * 6, add(0, 1, 63, [1]), -2)

    def test_six_in_each_net(self):
        other = add(1, 1, 0, [1])
        self.assertEqual(last([single()] * 6 + [other] * 6), [0, 5])

    def test_just_512_worlds(self):
        for sizes in ((4, 4, 4, 4, 2, 1), (2, 4, 4, 4, 4), (4, 2, 2, 4, 2, 4)):
            parts = run([single(states) for states in sizes])
            self.assertEqual(parts, [[0, v] for v in range(len(sizes))])

    def test_more_than_512_worlds(self):
        self.check_refused([single(4)] * 4, single(4), -2)
        self.check_refused([single(4)] * 4, single(3), -2)
        self.check_refused([single(4)] * 4 + [single(2)], single(2), -2)
        self.check_refused([single(3)] * 5, single(3), -2)
        self.assertEqual(last([single(3)] * 5 + [single(2)]), [0, 5])

    def test_arguments_are_looked_at_before_room(self):
        for call in (add(2, 1, 0, [1]), add(0, 0, 0, [1]), add(0, 5, 0, [1] * 5), add(0, 1, 64, [1]),
                     add(0, 1, -1, [1])):
            self.check_refused([single()] * 6, call, -1)
        self.check_refused([single(4)] * 4, add(0, 5, 0, [1] * 5), -1)
        self.check_refused([single(4)] * 4, add(0, 4, 16, [1] * 4), -1)

    def test_room_is_looked_at_before_the_table(self):
        for weights in ([], [0], [-1], [1, 1], [FAR]):
            self.check_refused([single()] * 6, add(0, 1, 0, weights), -2)
        for weights in ([], [0] * 4, [-1, 1, 1, 1], [1] * 5, [FAR] * 4):
            self.check_refused([single(4)] * 4 + [single(2)], add(0, 4, 0, weights), -2)

    def test_too_many_and_too_few_weights(self):
        for weights in ([], [1], [1, 1, 1], [1] * 4, [1] * 2000):
            self.check_refused([], add(0, 2, 0, weights), -1)
        for length in (0, 2, 7, 9, 10, 16):
            self.check_refused(garden(0), add(0, 2, 5, [1] * length), -1)

    def test_rows_are_the_parents_states(self):
        before = [single(2), single(3), single(4)]
        for parents, rows in ((0, 1), (1, 2), (2, 3), (3, 6), (4, 4), (5, 8), (6, 12), (7, 24)):
            self.assertEqual(last(before + [add(0, 2, parents, [1, 2] * rows)]), [0, 3])
            self.check_refused(before, add(0, 2, parents, [1, 2] * (rows + 1)), -1)
            self.check_refused(before, add(0, 2, parents, [1, 2] * (rows - 1)), -1)

    def test_a_weight_below_0(self):
        for weights in ([-1, 2], [2, -1], [-FAR, FAR], [FAR, -FAR + 1], [-1, -1]):
            self.check_refused([], add(0, 2, 0, weights), -1)
        self.check_refused(garden(0), add(0, 2, 1, [1, 1, -1, 3]), -1)

    def test_totals(self):
        for weights in ([0, 1], [1, 0], [MOST_TOTAL, 0], [1, MOST_TOTAL - 1]):
            self.assertEqual(run([add(0, 2, 0, weights), look(0, 0)]), [[0, 0], [0, 2, 0] + weights])
        for weights in ([0, 0], [MOST_TOTAL, 1], [MOST_TOTAL + 1, 0], [0, FAR], [FAR, FAR]):
            self.check_refused([], add(0, 2, 0, weights), -1)

    def test_totals_of_several_rows(self):
        most = [MOST_TOTAL, 0, 1, MOST_TOTAL - 1]
        self.assertEqual(last([single(2), add(0, 2, 1, most)]), [0, 1])
        for weights in ([0, 0, 0, 0], [1, 0, 0, 0], [0, 0, 1, 0], [1, 1, 1, 0], [1, 1, 1, 2],
                        [MOST_TOTAL, 1, 1, MOST_TOTAL], [MOST_TOTAL, 0, MOST_TOTAL, 1]):
            self.check_refused([single(2)], add(0, 2, 1, weights), -1)

    def test_rows_of_equal_halves_but_other_totals(self):
        # Cut by the parents' two states this would be even; cut by its own three it isn't.
        self.check_refused([single(2)], add(0, 3, 1, [1, 1, 1, 0, 1, 0]), -1)
        self.assertEqual(last([single(2), add(0, 3, 1, [1, 1, 1, 3, 0, 0])]), [0, 1])

    def test_variables_may_have_totals_of_their_own(self):
        self.assertEqual(last([add(0, 2, 0, [1, 1]), add(0, 2, 1, [3, 4, 7, 0])]), [0, 1])


class DropTest(CallTest):
    def test_drop_takes_the_last(self):
        parts = run(garden(0) + [drop(0)] + looks()[:6])
        self.assertEqual(parts[3:], [[0, 2], [0, 2, 0] + RAIN, [0, 2, 1] + SPRINKLER, [-1], [-1], [-1], [-1]])

    def test_drop_until_none_is_left(self):
        parts = run(garden(0) + [drop(0)] * 5)
        self.assertEqual(parts[3:], [[0, 2], [0, 1], [0, 0], [-4], [-4]])

    def test_none_to_drop(self):
        self.check_refused([], drop(0), -4)
        self.check_refused(garden(0), drop(1), -4)
        self.check_refused(garden(1), drop(0), -4)
        self.check_refused(garden(0) + [clear(0)], drop(0), -4)

    def test_which_net(self):
        for d in OUTSIDE:
            self.check_refused([], drop(d), -1)
            self.check_refused(garden(0) + garden(1), drop(d), -1)

    def test_room_and_number_are_free_again(self):
        self.assertEqual(run([single()] * 6 + [single(), drop(0), single()])[6:], [[-2], [0, 5], [0, 5]])
        self.assertEqual(run([single(4)] * 4 + [single(4), drop(0), single(2), single(4)])[4:],
                         [[-2], [0, 3], [0, 3], [0, 4]])

    def test_drop_changes_what_is_told(self):
        self.assertEqual(last(garden(0) + [drop(0), chance(0, [-1, -1], [-1, -1], [-1, 1])]), [0, 11, 50])
        self.assertEqual(last(garden(0) + [drop(0), chance(0, [-1] * 3, [-1] * 3, [-1] * 3)]), [-1])


class LookTest(CallTest):
    def test_look_shows_what_was_added(self):
        parts = run(garden(0) + [look(0, 2), look(0, 0), look(0, 1)])
        self.assertEqual(parts[3:], [[0, 2, 3] + WET, [0, 2, 0] + RAIN, [0, 2, 1] + SPRINKLER])

    def test_weights_are_shown_as_they_were_given(self):
        self.assertEqual(last([add(0, 3, 0, [2, 4, 6]), look(0, 0)]), [0, 3, 0, 2, 4, 6])

    def test_the_longest_table(self):
        weights = [1, 1, 0, 2] * 128
        before = [single(4), single(4), single(4), single(2)]
        self.assertEqual(last(before + [add(0, 4, 15, weights), look(0, 4)]), [0, 4, 15] + weights)

    def test_no_such_variable(self):
        for v in (-FAR, -1, 3, 6, FAR):
            self.check_refused(garden(0) + garden(1), look(0, v), -1)
        self.check_refused([], look(0, 0), -1)
        self.check_refused(garden(0), look(1, 0), -1)

    def test_which_net(self):
        for d in OUTSIDE:
            self.check_refused(garden(0) + garden(1), look(d, 0), -1)


class CountTest(CallTest):
    def test_nets_of_0_to_6_variables(self):
        for d in (0, 1):
            for size in range(7):
                self.check_told(arrows(d, ALL_JOINED[:size]), count(d), [0, size])
                self.check_told(arrows(d, [0] * size), count(1 - d), [0, 0])

    def test_each_net_by_itself(self):
        self.assertEqual(run(garden(0) + arrows(1, [0, 1, 2, 4]) + [count(0), count(1)])[7:], [[0, 3], [0, 4]])

    def test_after_calls_that_change_the_net(self):
        self.assertEqual(run(garden(0) + [drop(0), count(0), clear(0), count(0)])[3:], [[0, 2], [0, 2], [0], [0, 0]])

    def test_after_an_add_that_was_refused(self):
        for wrong, refusal in ((add(0, 1, 64, [1]), -1), (add(0, 1, 0, [1]), -2)):
            self.assertEqual(run([single()] * 6 + [wrong, count(0)])[6:], [[refusal], [0, 6]])

    def test_which_net(self):
        for d in OUTSIDE:
            self.check_refused([], count(d), -1)
            self.check_refused(garden(0) + garden(1), count(d), -1)


if __name__ == "__main__":
    unittest.main()
