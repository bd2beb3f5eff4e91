"""Promise 9: apart."""

import itertools
import unittest

from tests.helper import ALL_JOINED, FAR, OUTSIDE, CallTest, apart, arrows, drop, garden, last, run

CHAIN = [0, 1, 2]
FORK = [0, 1, 1]
MEETING = [0, 0, 3]
# 0 -> 2 <- 1, and from 2 on a row of arrows: 2 -> 3 -> 4.
LONG_MEETING = [0, 0, 3, 4, 8]


class ApartTest(CallTest):
    def check_path(self, parents, sets, path):
        """sets: noin, noout, a, b, given."""
        self.check_told(arrows(0, parents), apart(0, *sets), [0] + path)

    def test_joined(self):
        self.check_path([0, 1], (0, 0, 1, 2, 0), [0, 1])
        self.check_path([0, 1], (0, 0, 2, 1, 0), [1, 0])

    def test_not_joined(self):
        self.check_path([0, 0], (0, 0, 1, 2, 0), [])
        self.check_path([0, 0, 0, 4], (0, 0, 3, 12, 0), [])

    def test_along_a_row_of_arrows(self):
        self.check_path(CHAIN, (0, 0, 1, 4, 0), [0, 1, 2])
        self.check_path(CHAIN, (0, 0, 4, 1, 0), [2, 1, 0])
        self.check_path(CHAIN, (0, 0, 1, 4, 2), [])
        self.check_path(CHAIN, (0, 0, 4, 1, 2), [])

    def test_from_a_common_cause(self):
        self.check_path(FORK, (0, 0, 2, 4, 0), [1, 0, 2])
        self.check_path(FORK, (0, 0, 2, 4, 1), [])

    def test_a_meeting_is_opened_by_itself(self):
        self.check_path(MEETING, (0, 0, 1, 2, 0), [])
        self.check_path(MEETING, (0, 0, 1, 2, 4), [0, 2, 1])
        self.check_path(MEETING, (0, 0, 2, 1, 4), [1, 2, 0])

    def test_a_meeting_is_opened_by_a_descendant(self):
        for given in (4, 8, 16, 12, 24, 28):
            self.check_path(LONG_MEETING, (0, 0, 1, 2, given), [0, 2, 1])
        self.check_path(LONG_MEETING, (0, 0, 1, 2, 0), [])

    def test_a_meeting_is_not_opened_by_others(self):
        # 1 -> 3 <- 2; 0 is a parent of 1, 4 a child of 1, 5 stands by itself.
        parents = [0, 1, 0, 6, 2, 0]
        for given in (0, 1, 16, 32, 49):
            self.check_path(parents, (0, 0, 2, 4, given), [])
        self.check_path(parents, (0, 0, 2, 4, 8), [1, 3, 2])

    def test_an_open_meeting_beside_one_that_is_not_met_at(self):
        # Given 2, the way 0 -> 2 -> 3 is closed but 0 -> 2 <- 1 is open.
        self.check_path([0, 0, 3, 4], (0, 0, 1, 8, 4), [])
        self.check_path([0, 0, 3, 6], (0, 0, 1, 8, 4), [0, 2, 1, 3])
        self.check_path([0, 0, 3, 6], (0, 0, 1, 8, 0), [0, 2, 3])
        self.check_path([0, 0, 3, 6], (0, 0, 1, 8, 6), [])

    def test_two_meetings_on_one_path(self):
        # 0 -> 3 <- 1 -> 4 <- 2
        parents = [0, 0, 0, 3, 6]
        self.check_path(parents, (0, 0, 1, 4, 24), [0, 3, 1, 4, 2])
        for given in (0, 8, 16, 26):
            self.check_path(parents, (0, 0, 1, 4, given), [])

    def test_empty_sets(self):
        for a, b in ((0, 0), (0, 4), (1, 0), (0, 7), (7, 0)):
            self.check_path(CHAIN, (0, 0, a, b, 0), [])
        self.check_path(CHAIN, (0, 0, 0, 1, 6), [])
        self.check_path([], (0, 0, 0, 0, 0), [])

    def test_the_shortest_of_several(self):
        # 0 -> 1 -> 2 -> 3 and 0 -> 3, which is shorter though it comes later.
        self.check_path([0, 1, 2, 5], (0, 0, 1, 8, 0), [0, 3])
        # 0 -> 1 -> 2 -> 4 comes first, 0 -> 3 -> 4 is shorter; given 3 it is closed.
        self.check_path([0, 1, 2, 1, 12], (0, 0, 1, 16, 0), [0, 3, 4])
        self.check_path([0, 1, 2, 1, 12], (0, 0, 1, 16, 8), [0, 1, 2, 4])

    def test_the_shortest_is_not_open(self):
        # 1 -> 4 <- 3 is the shorter one, and only open given 4; 1 <- 0 -> 2 -> 3 goes round it.
        parents = [0, 1, 1, 4, 10]
        self.check_path(parents, (0, 0, 2, 8, 0), [1, 0, 2, 3])
        self.check_path(parents, (0, 0, 2, 8, 16), [1, 4, 3])
        self.check_path(parents, (0, 0, 2, 8, 17), [1, 4, 3])
        self.check_path(parents, (0, 0, 2, 8, 1), [])
        self.check_path(parents, (0, 0, 2, 8, 4), [])

    def test_of_several_shortest_the_one_that_comes_first(self):
        self.check_path([0, 1, 1, 6], (0, 0, 1, 8, 0), [0, 1, 3])
        self.check_path([0, 1, 1, 6], (0, 0, 8, 1, 0), [3, 1, 0])
        self.check_path([0, 1, 1, 6], (0, 0, 1, 8, 2), [0, 2, 3])
        self.check_path([0, 1, 1, 6], (0, 0, 2, 4, 0), [1, 0, 2])
        self.check_path([0, 1, 1, 6], (0, 0, 2, 4, 8), [1, 0, 2])
        self.check_path([0, 1, 1, 6], (0, 0, 2, 4, 9), [1, 3, 2])

    def test_several_variables_in_a_and_b(self):
        self.check_path(CHAIN, (0, 0, 3, 4, 0), [1, 2])
        self.check_path(CHAIN, (0, 0, 1, 6, 0), [0, 1])
        self.check_path([0, 0, 1, 2], (0, 0, 3, 12, 0), [0, 2])
        self.check_path([0, 0, 1, 2], (0, 0, 12, 3, 0), [2, 0])
        self.check_path([0, 0, 1, 6], (0, 0, 3, 8, 0), [1, 3])
        self.check_path([0, 0, 0, 7], (0, 0, 7, 8, 0), [0, 3])
        self.check_path([0, 0, 0, 7], (0, 0, 8, 7, 0), [3, 0])
        # From 0 three steps, from 1 two: the shorter one though its start comes later.
        self.check_path([0, 0, 1, 4, 2, 24], (0, 0, 3, 32, 0), [1, 4, 5])

    def test_noin_takes_arrows_and_joins(self):
        self.check_path(CHAIN, (2, 0, 1, 4, 0), [])
        self.check_path(CHAIN, (4, 0, 1, 4, 0), [])
        self.check_path(CHAIN, (1, 0, 1, 4, 0), [0, 1, 2])
        self.check_path([0, 1, 3], (4, 0, 2, 4, 0), [])
        self.check_path([0, 1, 3], (2, 0, 1, 4, 2), [0, 2])
        self.check_path([0, 1, 3], (2, 0, 1, 2, 0), [])

    def test_noout_takes_arrows_and_joins(self):
        self.check_path(CHAIN, (0, 1, 1, 4, 0), [])
        self.check_path(CHAIN, (0, 2, 1, 4, 0), [])
        self.check_path(CHAIN, (0, 4, 1, 4, 0), [0, 1, 2])
        self.check_path([0, 1, 3], (0, 2, 2, 4, 0), [1, 0, 2])
        self.check_path([0, 1, 3], (0, 1, 1, 4, 0), [])
        self.check_path([0, 1, 3], (0, 1, 2, 4, 0), [1, 2])

    def test_noin_and_noout_take_meetings(self):
        self.check_path(MEETING, (4, 0, 1, 2, 4), [])
        self.check_path(MEETING, (0, 1, 1, 2, 4), [])
        self.check_path(MEETING, (0, 2, 1, 2, 4), [])
        # Without 0 -> 2 there is no path through 2 at all, and 0 -> 1 stays.
        self.check_path([0, 1, 3], (4, 0, 1, 2, 4), [0, 1])
        self.check_path([0, 1, 3], (2, 0, 1, 2, 4), [0, 2, 1])

    def test_noin_and_noout_take_descendants(self):
        self.check_path(LONG_MEETING, (0, 0, 1, 2, 16), [0, 2, 1])
        for noin, noout in ((8, 0), (16, 0), (0, 4), (0, 8), (24, 12)):
            self.check_path(LONG_MEETING, (noin, noout, 1, 2, 16), [])
            self.check_path(LONG_MEETING, (noin, noout, 1, 2, 4), [0, 2, 1])
        self.check_path(LONG_MEETING, (16, 8, 1, 2, 8), [0, 2, 1])

    def test_noin_and_noout_together(self):
        # Only 1 -> 2 is left of 0 -> 1 -> 2 -> 3 and 0 -> 3.
        self.check_path([0, 1, 2, 5], (2, 5, 2, 4, 0), [1, 2])
        for a, b in itertools.permutations((1, 2, 4, 8), 2):
            if {a, b} != {2, 4}:
                self.check_path([0, 1, 2, 5], (2, 5, a, b, 0), [])
        self.check_path(ALL_JOINED, (63, 0, 1, 32, 0), [])
        self.check_path(ALL_JOINED, (0, 63, 1, 32, 0), [])

    def test_noin_and_noout_may_have_variables_of_the_others(self):
        self.check_path(CHAIN, (1, 4, 1, 4, 0), [0, 1, 2])
        self.check_path(MEETING, (3, 4, 1, 2, 4), [0, 2, 1])
        self.check_path(MEETING, (7, 7, 1, 2, 4), [])

    def test_sets_with_a_variable_in_common(self):
        for sets in ((1, 1, 0), (3, 2, 0), (7, 4, 0), (1, 4, 1), (3, 4, 2), (0, 4, 4), (1, 6, 4), (4, 0, 4), (1, 1, 1)):
            self.check_refused(arrows(0, CHAIN), apart(0, 0, 0, *sets), -1)
            self.check_refused(arrows(0, CHAIN), apart(0, 7, 7, *sets), -1)

    def test_arguments_that_are_no_sets(self):
        for wrong in (-FAR, -8, -1, 8, 9, FAR - 1, FAR):
            for place in range(5):
                sets = [0, 0, 1, 4, 2]
                sets[place] = wrong
                self.check_refused(arrows(0, CHAIN), apart(0, *sets), -1)
                sets = [0] * 5
                sets[place] = wrong
                self.check_refused(arrows(0, CHAIN), apart(0, *sets), -1)

    def test_no_variables(self):
        for place in range(5):
            for wrong in (-1, 1, FAR):
                sets = [0] * 5
                sets[place] = wrong
                self.check_refused([], apart(0, *sets), -1)

    def test_all_joined(self):
        for u, w in itertools.permutations(range(6), 2):
            others = 63 - 2 ** u - 2 ** w
            self.check_path(ALL_JOINED, (0, 0, 2 ** u, 2 ** w, 0), [u, w])
            self.check_path(ALL_JOINED, (0, 0, 2 ** u, 2 ** w, others), [u, w])
        self.check_path(ALL_JOINED, (0, 0, 7, 56, 0), [0, 3])
        self.check_path(ALL_JOINED, (0, 0, 0, 63, 0), [])

    def test_tables_do_not_count(self):
        self.check_told(garden(0), apart(0, 0, 0, 1, 4, 0), [0, 0, 2])
        self.check_told(garden(0), apart(0, 4, 0, 1, 4, 0), [0])

    def test_which_net(self):
        for d in OUTSIDE:
            self.check_refused(garden(0) + garden(1), apart(d, 0, 0, 1, 4, 0), -1)
            self.check_refused([], apart(d, 0, 0, 0, 0, 0), -1)
        before = arrows(0, CHAIN) + arrows(1, [0, 0, 0, 1])
        self.check_told(before, apart(1, 0, 0, 1, 8, 0), [0, 0, 3])
        self.check_told(before, apart(1, 0, 0, 1, 4, 0), [0])
        self.check_refused(before, apart(0, 0, 0, 1, 8, 0), -1)

    def test_after_a_drop(self):
        before = arrows(0, LONG_MEETING) + [drop(0)]
        self.assertEqual(last(before + [apart(0, 0, 0, 1, 2, 16)]), [-1])
        self.assertEqual(run(before + [apart(0, 0, 0, 1, 2, 8), apart(0, 0, 0, 1, 2, 0)])[6:], [[0, 0, 2, 1], [0]])


if __name__ == "__main__":
    unittest.main()
