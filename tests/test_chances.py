"""Promises 5 to 7: chance, likeliest, ask."""

import unittest

from tests.helper import FAR, OUTSIDE, CallTest, add, ask, chance, drop, garden, last, likeliest, run

NONE = [-1, -1, -1]
MOST_TOTAL = 2 ** 32 - 1

# Assignments that don't fit the garden's three variables of two states each.
MISFITS = ([], [-1, -1], [-1] * 4, [-1] * 20, [2, -1, -1], [-1, -1, 2], [-2, -1, -1], [-1, -1, -2],
           [-1, FAR, -1], [-1, -FAR, -1])


class ChanceTest(CallTest):
    def garden_chance(self, forced, seen, asked):
        return last(garden(0) + [chance(0, forced, seen, asked)])

    def test_nothing_seen_and_nothing_set(self):
        self.assertEqual(self.garden_chance(NONE, NONE, [1, -1, -1]), [0, 4, 5])
        self.assertEqual(self.garden_chance(NONE, NONE, [-1, 1, -1]), [0, 11, 50])

    def test_the_lowest_parent_changes_slowest(self):
        self.assertEqual(self.garden_chance(NONE, [0, 1, -1], [-1, -1, 1]), [0, 3, 5])
        self.assertEqual(self.garden_chance(NONE, [1, 0, -1], [-1, -1, 1]), [0, 7, 10])

    def test_rows_of_parents_with_other_numbers_of_states(self):
        weights = []
        for row in range(6):
            weights += [row, 10 - row]
        before = [add(0, 2, 0, [1, 1]), add(0, 1, 0, [5]), add(0, 3, 0, [1, 1, 1]), add(0, 2, 5, weights)]
        for row in range(6):
            seen = [row // 3, 0, row % 3, -1]
            part = run(before + [chance(0, [-1] * 4, seen, [-1, -1, -1, 1])])[-1]
            self.assertEqual(part[1] * 10, (10 - row) * part[2])

    def test_seen(self):
        # Rain given wet grass: 4 * (9 * 7 + 1 * 9) = 288, of 1 * (3 * 0 + 7 * 6) = 42 more.
        self.assertEqual(self.garden_chance(NONE, [-1, -1, 1], [1, -1, -1]), [0, 48, 55])

    def test_set_is_not_seen(self):
        self.assertEqual(self.garden_chance(NONE, [-1, 1, -1], [1, -1, -1]), [0, 4, 11])
        self.assertEqual(self.garden_chance([-1, 1, -1], NONE, [1, -1, -1]), [0, 4, 5])
        self.assertEqual(self.garden_chance([-1, 1, -1], [-1, 1, -1], [1, -1, -1]), [0, 4, 5])

    def test_set_goes_on_to_what_it_brings_about(self):
        self.assertEqual(self.garden_chance([-1, 1, -1], NONE, [-1, -1, 1]), [0, 21, 25])
        self.assertEqual(self.garden_chance(NONE, [-1, 1, -1], [-1, -1, 1]), [0, 39, 55])

    def test_set_and_seen_together(self):
        # With the sprinkler on: dry with rain 4 * 1, dry without 1 * 4.
        self.assertEqual(self.garden_chance([-1, 1, -1], [-1, -1, 0], [1, -1, -1]), [0, 1, 2])

    def test_what_is_set_may_have_no_weight_in_its_table(self):
        before = [add(0, 2, 0, [1, 0]), add(0, 2, 1, [1, 2, 2, 1])]
        self.assertEqual(last(before + [chance(0, [1, -1], [1, -1], [-1, 0])]), [0, 2, 3])
        self.assertEqual(last(before + [chance(0, [-1, -1], [1, -1], [-1, 0])]), [-3])

    def test_set_every_variable(self):
        self.assertEqual(self.garden_chance([0, 0, 1], NONE, [0, 0, 1]), [0, 1, 1])
        self.assertEqual(self.garden_chance([0, 0, 1], NONE, [0, 0, 0]), [0, 0, 1])
        self.assertEqual(self.garden_chance([0, 0, 1], [-1, -1, 0], NONE), [-3])

    def test_nothing_asked_is_sure(self):
        self.assertEqual(self.garden_chance(NONE, NONE, NONE), [0, 1, 1])
        self.assertEqual(self.garden_chance([-1, 0, -1], [1, -1, 0], NONE), [0, 1, 1])

    def test_nothing_is_0_1(self):
        self.assertEqual(self.garden_chance(NONE, [0, 0, -1], [-1, -1, 1]), [0, 0, 1])

    def test_asked_may_speak_against_seen_or_set(self):
        self.assertEqual(self.garden_chance(NONE, [1, -1, -1], [0, -1, -1]), [0, 0, 1])
        self.assertEqual(self.garden_chance([1, -1, -1], NONE, [0, -1, -1]), [0, 0, 1])
        self.assertEqual(self.garden_chance(NONE, [1, -1, -1], [1, -1, -1]), [0, 1, 1])

    def test_what_was_seen_cannot_be(self):
        for forced, seen in ((NONE, [0, 0, 1]), ([1, -1, -1], [0, -1, -1]), ([-1, 0, -1], [0, -1, 1]),
                             ([0, 0, -1], [-1, -1, 1])):
            for asked in (NONE, [0, 0, 0], seen):
                self.check_refused(garden(0), chance(0, forced, seen, asked), -3)

    def test_no_variables(self):
        self.assertEqual(run([chance(0, [], [], []), chance(1, [], [], [])]), [[0, 1, 1], [0, 1, 1]])
        for call in (chance(0, [-1], [], []), chance(0, [], [0], []), chance(0, [], [], [-1])):
            self.check_refused([], call, -1)

    def test_one_state(self):
        self.assertEqual(last([add(0, 1, 0, [7]), chance(0, [-1], [-1], [0])]), [0, 1, 1])
        self.check_refused([add(0, 1, 0, [7])], chance(0, [-1], [-1], [1]), -1)

    def test_four_states(self):
        before = [add(0, 4, 0, [1, 2, 3, 4])]
        self.assertEqual(last(before + [chance(0, [-1], [-1], [3])]), [0, 2, 5])
        self.check_refused(before, chance(0, [-1], [-1], [4]), -1)

    def test_great_weights_are_exact(self):
        before = [add(0, 2, 0, [1, MOST_TOTAL - 1])] * 6
        self.assertEqual(last(before + [chance(0, [-1] * 6, [-1] * 6, [0] * 6)]), [0, 1, MOST_TOTAL ** 6])

    def test_assignments_that_are_none(self):
        for row in MISFITS:
            for call in (chance(0, row, NONE, NONE), chance(0, NONE, row, NONE), chance(0, NONE, NONE, row)):
                self.check_refused(garden(0), call, -1)

    def test_an_assignment_is_looked_at_before_what_was_seen(self):
        self.check_refused(garden(0), chance(0, NONE, [0, 0, 1], [2, -1, -1]), -1)
        self.check_refused(garden(0), chance(0, [1, -1, -1], [0, -1, -1], [-1]), -1)

    def test_which_net(self):
        for d in OUTSIDE:
            self.check_refused(garden(0) + garden(1), chance(d, NONE, NONE, NONE), -1)
            self.check_refused([], chance(d, [], [], []), -1)

    def test_each_net_by_itself(self):
        before = garden(0) + [add(1, 2, 0, [1, 1])]
        calls = [chance(0, NONE, NONE, [1, -1, -1]), chance(1, [-1], [-1], [1]), chance(1, NONE, NONE, NONE)]
        self.assertEqual(run(before + calls)[4:], [[0, 4, 5], [0, 1, 2], [-1]])


class LikeliestTest(CallTest):
    def garden_likeliest(self, forced, seen):
        return last(garden(0) + [likeliest(0, forced, seen)])

    def test_nothing_seen(self):
        self.assertEqual(self.garden_likeliest(NONE, NONE), [0, 63, 125, 1, 0, 1])

    def test_seen(self):
        self.assertEqual(self.garden_likeliest(NONE, [0, -1, -1]), [0, 21, 50, 0, 1, 1])
        self.assertEqual(self.garden_likeliest(NONE, [-1, 1, -1]), [0, 21, 55, 0, 1, 1])

    def test_set(self):
        self.assertEqual(self.garden_likeliest([-1, 1, -1], NONE), [0, 18, 25, 1, 1, 1])
        self.assertEqual(self.garden_likeliest([-1, 1, -1], [-1, -1, 0]), [0, 1, 2, 0, 1, 0])

    def test_everything_is_set(self):
        self.assertEqual(self.garden_likeliest([0, 0, 1], NONE), [0, 1, 1, 0, 0, 1])

    def test_of_several_the_one_that_comes_first(self):
        even = [add(0, 2, 0, [1, 1]), add(0, 3, 0, [1, 2, 2])]
        self.assertEqual(last(even + [likeliest(0, [-1, -1], [-1, -1])]), [0, 1, 5, 0, 1])
        # The worlds 0 1 and 1 0 weigh the same: the first number that differs decides.
        crossed = [add(0, 2, 0, [1, 1]), add(0, 2, 1, [0, 1, 1, 0])]
        self.assertEqual(last(crossed + [likeliest(0, [-1, -1], [-1, -1])]), [0, 1, 2, 0, 1])

    def test_worlds_that_do_not_keep_seen_are_left_out(self):
        before = [add(0, 3, 0, [5, 1, 2]), add(0, 2, 1, [1, 1, 2, 0, 0, 2])]
        self.assertEqual(last(before + [likeliest(0, [-1, -1], [1, -1])]), [0, 1, 1, 1, 0])
        self.assertEqual(last(before + [likeliest(0, [-1, -1], [-1, 1])]), [0, 5, 9, 0, 1])

    def test_no_variables(self):
        self.assertEqual(run([likeliest(0, [], []), likeliest(1, [], [])]), [[0, 1, 1], [0, 1, 1]])

    def test_512_worlds(self):
        before = [add(0, states, 0, [0] * (states - 1) + [1]) for states in (4, 4, 4, 4, 2, 1)]
        self.assertEqual(last(before + [likeliest(0, [-1] * 6, [-1] * 6)]), [0, 1, 1, 3, 3, 3, 3, 1, 0])

    def test_what_was_seen_cannot_be(self):
        for forced, seen in ((NONE, [0, 0, 1]), ([1, -1, -1], [0, -1, -1]), ([-1, 0, -1], [0, -1, 1])):
            self.check_refused(garden(0), likeliest(0, forced, seen), -3)

    def test_assignments_that_are_none(self):
        for row in MISFITS:
            self.check_refused(garden(0), likeliest(0, row, NONE), -1)
            self.check_refused(garden(0), likeliest(0, NONE, row), -1)
            self.check_refused(garden(0), likeliest(0, row, [0, 0, 1]), -1)

    def test_which_net(self):
        for d in OUTSIDE:
            self.check_refused(garden(0) + garden(1), likeliest(d, NONE, NONE), -1)
        self.assertEqual(last(garden(1) + [likeliest(1, NONE, NONE)]), [0, 63, 125, 1, 0, 1])
        self.check_refused(garden(1), likeliest(0, NONE, NONE), -1)


class AskTest(CallTest):
    def garden_ask(self, target, among, seen):
        return last(garden(0) + [ask(0, target, among, seen)])

    def test_the_question_that_helps_most(self):
        # For the rain: sprinkler max(3, 36) + max(7, 4) = 43 of 50; grass max(58, 112) + max(42, 288) = 400 of 500.
        self.assertEqual(self.garden_ask(0, 7, NONE), [0, 1, 43, 50])
        self.assertEqual(self.garden_ask(0, 2, NONE), [0, 1, 43, 50])
        self.assertEqual(self.garden_ask(0, 4, NONE), [0, 2, 4, 5])

    def test_a_higher_number_may_be_worth_more(self):
        before = [add(0, 2, 0, [1, 1]), add(0, 2, 1, [1, 1, 1, 1]), add(0, 2, 1, [2, 1, 1, 2])]
        self.assertEqual(last(before + [ask(0, 0, 7, NONE)]), [0, 2, 2, 3])

    def test_of_several_the_lowest(self):
        before = [add(0, 2, 0, [1, 1])] * 4
        for target, among, best in ((0, 15, 1), (1, 15, 0), (0, 12, 2), (2, 8, 3)):
            self.assertEqual(last(before + [ask(0, target, among, [-1] * 4)]), [0, best, 1, 2])

    def test_seen_is_taken_into_account(self):
        # Given wet grass: with the sprinkler off 0 and 252, on 42 and 36, of 330.
        self.assertEqual(self.garden_ask(0, 7, [-1, -1, 1]), [0, 1, 49, 55])

    def test_what_was_seen_is_no_question(self):
        # Given the sprinkler on: dry grass 28 and 4, wet grass 42 and 36, of 110.
        self.assertEqual(self.garden_ask(0, 7, [-1, 1, -1]), [0, 2, 7, 11])
        self.check_refused(garden(0), ask(0, 0, 2, [-1, 1, -1]), -4)
        self.check_refused(garden(0), ask(0, 0, 7, [-1, 1, 1]), -4)

    def test_the_target_is_no_question(self):
        self.check_refused(garden(0), ask(0, 0, 1, NONE), -4)
        self.check_refused(garden(0), ask(0, 2, 4, NONE), -4)
        self.check_refused([add(0, 2, 0, [1, 1])], ask(0, 0, 1, [-1]), -4)

    def test_bits_from_n_on_do_not_count(self):
        self.assertEqual(self.garden_ask(0, FAR - 1, NONE), [0, 1, 43, 50])
        self.assertEqual(self.garden_ask(0, 8 + 4, NONE), [0, 2, 4, 5])
        for among in (0, 8, 9, FAR - 8, FAR):
            self.check_refused(garden(0), ask(0, 0, among, NONE), -4)

    def test_states_of_question_and_target_may_differ_in_number(self):
        before = [add(0, 4, 0, [4, 3, 2, 1]), add(0, 2, 1, [1, 0, 0, 1, 1, 0, 0, 1]), add(0, 1, 0, [3])]
        self.assertEqual(last(before + [ask(0, 0, 2, NONE)]), [0, 1, 7, 10])
        self.assertEqual(last(before + [ask(0, 1, 1, NONE)]), [0, 0, 1, 1])
        self.assertEqual(last(before + [ask(0, 0, 4, NONE)]), [0, 2, 2, 5])
        self.assertEqual(last(before + [ask(0, 2, 3, NONE)]), [0, 0, 1, 1])

    def test_what_was_seen_cannot_be(self):
        before = [add(0, 2, 0, [1, 0]), add(0, 2, 0, [1, 1]), add(0, 2, 0, [1, 1])]
        self.check_refused(before, ask(0, 1, 7, [1, -1, -1]), -3)

    def test_none_to_ask_is_looked_for_before_what_was_seen(self):
        before = [add(0, 2, 0, [1, 0]), add(0, 2, 0, [1, 1]), add(0, 2, 0, [1, 1])]
        self.check_refused(before, ask(0, 1, 3, [1, -1, -1]), -4)
        self.check_refused(before, ask(0, 1, 0, [1, -1, -1]), -4)

    def test_wrong_target(self):
        for target in (-FAR, -1, 3, FAR):
            self.check_refused(garden(0), ask(0, target, 7, NONE), -1)
        self.check_refused([], ask(0, 0, 7, []), -1)

    def test_a_target_that_was_seen(self):
        for state in (0, 1):
            self.check_refused(garden(0), ask(0, 0, 7, [state, -1, -1]), -1)
            self.check_refused(garden(0), ask(0, 2, 7, [-1, -1, state]), -1)

    def test_among_below_0(self):
        for among in (-FAR, -8, -1):
            self.check_refused(garden(0), ask(0, 0, among, NONE), -1)

    def test_seen_that_is_no_assignment(self):
        for row in MISFITS:
            self.check_refused(garden(0), ask(0, 0, 7, row), -1)
            self.check_refused(garden(0), ask(0, 2, 7, row), -1)

    def test_arguments_are_looked_at_before_the_rest(self):
        before = [add(0, 2, 0, [1, 0]), add(0, 2, 0, [1, 1])]
        for call in (ask(0, 0, 0, [1, -1]), ask(0, 0, 2, [1, -1]), ask(0, 1, -1, [1, -1]), ask(0, 2, 0, [1, -1]),
                     ask(2, 1, 0, [1, -1]), ask(0, 1, 0, [2, -1])):
            self.check_refused(before, call, -1)

    def test_which_net(self):
        for d in OUTSIDE:
            self.check_refused(garden(0) + garden(1), ask(d, 0, 7, NONE), -1)
        self.assertEqual(last(garden(1) + [ask(1, 0, 7, NONE)]), [0, 1, 43, 50])
        self.check_refused(garden(1), ask(0, 0, 7, NONE), -1)

    def test_after_a_drop(self):
        self.assertEqual(last(garden(0) + [drop(0), ask(0, 0, 7, [-1, -1])]), [0, 1, 43, 50])


if __name__ == "__main__":
    unittest.main()
