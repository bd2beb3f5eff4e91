"""Promises 12 and 13: alike, sure."""

import itertools
import unittest

from tests.helper import ALL_JOINED, FAR, OUTSIDE, CallTest, add, alike, arrows, garden, sure

CHAIN = [0, 1, 2]
FORK = [0, 1, 1]
MEETING = [0, 0, 3]


class AlikeTest(CallTest):
    def check_alike(self, parents, others, names, answer):
        """Net 0 has the parents, net 1 the others."""
        self.check_told(arrows(0, parents) + arrows(1, others), alike(0, 1, names), [0, answer])

    def test_one_net(self):
        for parents in (CHAIN, FORK, MEETING):
            for d in (0, 1):
                self.check_told(arrows(d, parents), alike(d, d, [0, 1, 2]), [0, 1])
        self.check_told(arrows(0, CHAIN), alike(0, 0, [2, 1, 0]), [0, 1])
        self.check_told(arrows(0, CHAIN), alike(0, 0, [1, 0, 2]), [0, 0])
        self.check_told(arrows(0, MEETING), alike(0, 0, [1, 0, 2]), [0, 1])
        self.check_told(arrows(0, MEETING), alike(0, 0, [2, 1, 0]), [0, 0])

    def test_two_nets_with_the_same_arrows(self):
        for parents in (CHAIN, FORK, MEETING):
            self.check_alike(parents, parents, [0, 1, 2], 1)

    def test_arrows_the_other_way(self):
        self.check_alike([0, 1], [0, 1], [1, 0], 1)
        # 0 -> 1 -> 2 and 1 <- 0 -> 2, where 1 is taken for 0.
        self.check_alike(CHAIN, FORK, [1, 0, 2], 1)
        self.check_alike(CHAIN, FORK, [2, 0, 1], 1)
        self.check_alike(FORK, CHAIN, [1, 0, 2], 1)
        self.check_alike(CHAIN, FORK, [0, 1, 2], 0)

    def test_the_same_pairs_with_other_open_meetings(self):
        # Of 0 -> 2 <- 1 and 0 -> 1 -> 2, where 2 is taken for 1, only the first has an open meeting.
        self.check_alike(MEETING, CHAIN, [0, 2, 1], 0)
        self.check_alike(CHAIN, MEETING, [0, 2, 1], 0)
        # Two open meetings on one row of joined variables, and one: 0 -> 3 <- 1 -> 4 <- 2, 0 -> 3 <- 1 <- 4 <- 2.
        self.check_alike([0, 0, 0, 3, 6], [0, 1, 0, 2, 12], [2, 3, 0, 4, 1], 0)
        self.check_alike([0, 0, 0, 3, 6], [0, 0, 0, 3, 6], [2, 1, 0, 4, 3], 1)

    def test_as_many_open_meetings_elsewhere(self):
        # 0 -> 2 <- 1 -> 3 has its one open meeting at the second of the row, 0 -> 1 -> 3 <- 2 at the third.
        at_second = [0, 0, 3, 2]
        at_third = [0, 1, 0, 6]
        self.check_alike(at_second, at_third, [0, 3, 1, 2], 0)
        self.check_alike(at_second, at_third, [2, 1, 3, 0], 1)

    def test_the_same_open_meetings_with_other_pairs(self):
        self.check_alike([0, 0, 3, 0], [0, 0, 3, 1], [0, 1, 2, 3], 0)
        self.check_alike([0, 0, 3, 1], [0, 0, 3, 0], [0, 1, 2, 3], 0)
        self.check_alike([0, 0], [0, 1], [0, 1], 0)
        self.check_alike([0, 1], [0, 0], [0, 1], 0)
        self.check_alike([0, 0, 1], [0, 0, 2], [0, 1, 2], 0)

    def test_a_meeting_of_joined_ones_is_not_open(self):
        for names in itertools.permutations(range(3)):
            self.check_alike([0, 1, 3], [0, 1, 3], names, 1)
        for names in ([5, 4, 3, 2, 1, 0], [1, 2, 3, 4, 5, 0], [0, 1, 2, 3, 4, 5]):
            self.check_alike(ALL_JOINED, ALL_JOINED, names, 1)
            self.check_alike(ALL_JOINED, ALL_JOINED[:5] + [30], names, 0)

    def test_several_open_meetings_at_one_variable(self):
        # At 4 there meet 0 with 3, and 1 with 2; the others are joined.
        parents = [0, 1, 1, 6, 15]
        self.check_alike(parents, parents, [0, 1, 2, 3, 4], 1)
        self.check_alike(parents, parents, [0, 2, 1, 3, 4], 1)
        self.check_alike(parents, parents, [3, 1, 2, 0, 4], 0)
        self.check_alike(parents, [0, 1, 1, 6, 7], [0, 1, 2, 3, 4], 0)

    def test_the_map_leads_from_d_to_e(self):
        # 0 and 1 are joined in d; they are taken for 1 and 2 of e.
        self.check_alike([0, 1, 0], [0, 0, 2], [1, 2, 0], 1)
        self.check_alike([0, 1, 0], [0, 0, 1], [1, 2, 0], 0)
        self.check_alike([0, 0, 2], [0, 1, 0], [2, 0, 1], 1)

    def test_net_1_as_d(self):
        before = arrows(1, [0, 1, 0]) + arrows(0, [0, 0, 2])
        self.check_told(before, alike(1, 0, [1, 2, 0]), [0, 1])
        self.check_told(before, alike(0, 1, [1, 2, 0]), [0, 0])
        self.check_told(before, alike(0, 1, [2, 0, 1]), [0, 1])

    def test_nets_of_different_sizes(self):
        self.check_alike([0, 1], CHAIN, [0, 1], 0)
        self.check_alike(CHAIN, [0, 1], [0, 1, 2], 0)
        self.check_alike([0], [0, 0], [0], 0)
        self.check_alike([0, 0], [0], [0, 1], 0)
        self.check_alike([], [0], [], 0)
        self.check_alike([0], [], [0], 0)

    def test_nets_without_variables(self):
        for d, e in itertools.product((0, 1), repeat=2):
            self.check_told([], alike(d, e, []), [0, 1])
            for names in ([0], [1], [-1]):
                self.check_refused([], alike(d, e, names), -1)

    def test_a_map_that_is_none(self):
        wrong = ([], [0], [0, 1], [0, 1, 2, 3], [0, 1, 2, 0], [0, 0, 1], [0, 0, 0], [2, 1, 2], [1, 2, 3], [0, 1, 3],
                 [-1, 0, 1], [0, 1, -FAR], [0, FAR, 1], list(range(20)))
        for names in wrong:
            self.check_refused(arrows(0, CHAIN) + arrows(1, CHAIN), alike(0, 1, names), -1)
            self.check_refused(arrows(0, CHAIN), alike(0, 0, names), -1)

    def test_the_map_has_the_numbers_of_net_d(self):
        # It is looked at before the sizes are compared.
        self.check_refused(arrows(0, [0, 1]) + arrows(1, CHAIN), alike(0, 1, [0, 1, 2]), -1)
        self.check_refused(arrows(0, [0, 1]) + arrows(1, CHAIN), alike(0, 1, [0, 2]), -1)
        self.check_refused(arrows(0, CHAIN) + arrows(1, [0, 1]), alike(0, 1, [0, 1]), -1)

    def test_states_and_tables_do_not_count(self):
        other = [add(1, 1, 0, [5]), add(1, 4, 1, [1, 2, 3, 4]), add(1, 3, 3, [1, 0, 0] * 4)]
        self.check_told(garden(0) + other, alike(0, 1, [2, 0, 1]), [0, 1])
        self.check_told(garden(0) + other, alike(1, 0, [0, 1, 2]), [0, 1])

    def test_which_nets(self):
        for wrong in OUTSIDE:
            for d, e in ((wrong, 0), (0, wrong), (wrong, 1), (1, wrong), (wrong, wrong)):
                self.check_refused(garden(0) + garden(1), alike(d, e, [0, 1, 2]), -1)
                self.check_refused([], alike(d, e, []), -1)


class SureTest(CallTest):
    def check_sure(self, parents, groups):
        """groups: for each variable, those parents whose arrow is sure."""
        for v, group in enumerate(groups):
            self.check_told(arrows(0, parents), sure(0, v), [0, group])

    def test_no_parents(self):
        self.check_sure([0], [0])
        self.check_sure([0] * 6, [0] * 6)

    def test_arrows_that_are_not_sure(self):
        self.check_sure([0, 1], [0, 0])
        self.check_sure(CHAIN, [0, 0, 0])
        self.check_sure(FORK, [0, 0, 0])
        self.check_sure([0, 1, 2, 4, 8, 16], [0] * 6)

    def test_arrows_of_an_open_meeting(self):
        self.check_sure(MEETING, [0, 0, 3])
        self.check_sure([0, 0, 0, 7], [0, 0, 0, 7])
        self.check_sure([0, 0, 0, 3, 6], [0, 0, 0, 3, 6])

    def test_the_other_way_would_bring_about_an_open_meeting(self):
        # 0 -> 2 <- 1, then 2 -> 3 -> 4: the other way 3 would meet there with 0 and 1.
        self.check_sure(MEETING + [4, 8], [0, 0, 3, 4, 8])

    def test_the_other_way_would_bring_about_a_ring(self):
        # Behind 0 -> 2 <- 1 there's 2 -> 3, and so 0 -> 3: else 0 -> 2 -> 3 -> 0.
        self.check_sure([0, 0, 3, 5], [0, 0, 3, 5])
        self.check_sure([0, 0, 3, 6], [0, 0, 3, 6])
        # 1 -> 3 <- 2, and 0 joined with all three: with 3 -> 0 only 1 -> 0 <- 2 makes no ring, but an open meeting.
        self.check_sure([0, 1, 1, 7], [0, 0, 0, 7])

    def test_only_some_arrows_of_a_variable_are_sure(self):
        # 0 and 1 meet at 2 and at 3; between 2 and 3 it may be either way.
        self.check_sure([0, 0, 3, 7], [0, 0, 3, 3])

    def test_only_some_variables_have_sure_arrows(self):
        # 0 - 1 may be either way, 1 -> 3 <- 2 not.
        self.check_sure([0, 1, 0, 6], [0, 0, 0, 6])

    def test_all_joined(self):
        self.check_sure(ALL_JOINED, [0] * 6)
        # Without 0 -> 1 these two meet at all others.
        self.check_sure([0, 0, 3, 7, 15, 31], [0, 0, 3, 3, 3, 3])
        # Without 4 -> 5 there is no open meeting, and nothing is sure.
        self.check_sure([0, 1, 3, 7, 15, 15], [0] * 6)

    def test_no_such_variable(self):
        for v in (-FAR, -1, 3, 6, FAR):
            self.check_refused(arrows(0, MEETING) + arrows(1, MEETING), sure(0, v), -1)
        self.check_refused([], sure(0, 0), -1)
        self.check_refused(arrows(0, MEETING), sure(1, 0), -1)

    def test_tables_do_not_count(self):
        before = [add(0, 2, 0, [1, 1]), add(0, 2, 0, [1, 1]), add(0, 2, 3, [1, 1] * 4)]
        self.check_told(before, sure(0, 2), [0, 3])
        self.check_told(garden(0), sure(0, 2), [0, 0])

    def test_which_net(self):
        for d in OUTSIDE:
            self.check_refused(garden(0) + garden(1), sure(d, 2), -1)
        before = arrows(0, CHAIN) + arrows(1, MEETING)
        self.check_told(before, sure(0, 2), [0, 0])
        self.check_told(before, sure(1, 2), [0, 3])


if __name__ == "__main__":
    unittest.main()
