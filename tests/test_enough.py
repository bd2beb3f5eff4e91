"""Promises 10 and 11: enough, fewest."""

import itertools
import unittest

from tests.helper import ALL_JOINED, FAR, OUTSIDE, CallTest, arrows, drop, enough, fewest, garden, last

# 0 -> 1, 0 -> 2, 1 -> 2: what 1 brings about at 2 is mixed with what 0 does to both.
MIXED = [0, 1, 3]
# 3 <- 0 -> 2 <- 1 -> 4, and 3 -> 4: nothing need be known, and to know 2 does harm.
HARM = [0, 0, 3, 1, 10]
# 4 <- 0 -> 1 -> 2 -> 5 and 4 -> 5.
ROUND = [0, 1, 2, 0, 1, 20]


class EnoughTest(CallTest):
    def check_enough(self, parents, x, y, right, wrong=()):
        """Of these sets, the ones are enough and the others aren't."""
        for z in right:
            self.check_told(arrows(0, parents), enough(0, x, y, z), [0, 1])
        for z in wrong:
            self.check_told(arrows(0, parents), enough(0, x, y, z), [0, 0])

    def test_a_common_cause_must_be_known(self):
        self.check_enough(MIXED, 1, 2, right=[1], wrong=[0])

    def test_no_path_at_all(self):
        self.check_enough([0, 0, 0], 0, 1, right=[0, 4])
        self.check_enough([0, 0, 0], 1, 0, right=[0, 4])

    def test_an_arrow_alone(self):
        self.check_enough([0, 1], 0, 1, right=[0])

    def test_one_on_the_way(self):
        self.check_enough([0, 1, 2], 0, 2, right=[0], wrong=[2])
        self.check_enough(MIXED, 0, 2, right=[0], wrong=[2])
        self.check_enough([0, 1, 2, 4], 0, 3, right=[0], wrong=[2, 4, 6])

    def test_a_descendant_of_one_on_the_way(self):
        # 0 -> 1 -> 2, and beside 1 -> 3 -> 4.
        self.check_enough([0, 1, 2, 2, 8], 0, 2, right=[0], wrong=[8, 16, 24])

    def test_a_descendant_of_y(self):
        self.check_enough([0, 1, 2], 0, 1, right=[0], wrong=[4])
        self.check_enough([0, 1, 2, 4], 0, 1, right=[0], wrong=[8])

    def test_a_descendant_of_x_that_is_not_on_the_way(self):
        self.check_enough([0, 1, 1], 0, 1, right=[0, 4])
        self.check_enough([0, 1, 1, 4], 0, 1, right=[0, 4, 8, 12])
        # 3 hangs on 2 beside the way, and on 1 on it.
        self.check_enough([0, 1, 1, 6], 0, 1, right=[0, 4], wrong=[8, 12])

    def test_a_parent_of_one_on_the_way(self):
        # 1 -> 2 beside 0 -> 2 -> 3: 1 isn't a descendant of 2.
        self.check_enough([0, 0, 3, 4], 0, 3, right=[0, 2], wrong=[4, 6])

    def test_paths_against_the_arrows_that_z_closes(self):
        self.check_enough(ROUND, 4, 5, right=[1, 2, 4, 3, 5, 6, 7, 9], wrong=[0, 8])

    def test_paths_against_the_arrows_that_z_opens(self):
        self.check_enough(HARM, 3, 4, right=[0, 1, 2, 3, 5, 6, 7], wrong=[4])

    def test_a_path_that_a_descendant_opens(self):
        # HARM with 2 -> 5.
        self.check_enough(HARM + [4], 3, 4, right=[0, 33, 34], wrong=[32, 36])

    def test_a_path_that_begins_along_an_arrow_but_is_no_row(self):
        # 0 -> 2 <- 1 -> 3 and 0 -> 3: from 0 the path by 2 is open given 2.
        self.check_enough([0, 0, 3, 3], 0, 3, right=[0, 2, 6], wrong=[4])

    def test_no_row_of_arrows_between_them(self):
        self.check_enough([0, 1, 1], 1, 2, right=[1], wrong=[0])
        self.check_enough([0, 1, 1], 2, 1, right=[1], wrong=[0])
        self.check_enough([0, 0, 3], 0, 1, right=[0], wrong=[4])
        # Nobody is on the way then, so a descendant of y may be in z.
        self.check_enough([0, 1, 1, 4], 1, 2, right=[1, 9], wrong=[0, 8])

    def test_arrows_only_from_y_to_x(self):
        self.check_enough([0, 1], 1, 0, right=[], wrong=[0])
        self.check_enough([0, 1, 2], 2, 0, right=[2], wrong=[0])
        self.check_enough(MIXED, 2, 0, right=[], wrong=[0, 2])

    def test_all_joined(self):
        for x, y in itertools.combinations(range(6), 2):
            before_x = 2 ** x - 1
            between = 2 ** y - 2 ** (x + 1)
            self.check_enough(ALL_JOINED, x, y, right=[before_x])
            for u in range(x):
                self.check_enough(ALL_JOINED, x, y, right=[], wrong=[before_x - 2 ** u])
            if between:
                self.check_enough(ALL_JOINED, x, y, right=[], wrong=[before_x + between])
            self.check_enough(ALL_JOINED, y, x, right=[], wrong=[0, before_x, before_x + between])

    def test_z_with_x_or_y_in_it(self):
        for z in (2, 4, 6, 3, 5, 7):
            self.check_refused(arrows(0, MIXED), enough(0, 1, 2, z), -1)

    def test_x_that_is_y(self):
        for x in range(3):
            self.check_refused(arrows(0, MIXED), enough(0, x, x, 0), -1)

    def test_no_such_variable(self):
        for wrong in (-FAR, -1, 3, 6, FAR):
            for x, y in ((wrong, 1), (1, wrong), (wrong, wrong)):
                self.check_refused(arrows(0, MIXED), enough(0, x, y, 0), -1)
        self.check_refused([], enough(0, 0, 1, 0), -1)
        self.check_refused([], enough(0, 0, 0, 0), -1)

    def test_z_that_is_no_set(self):
        for z in (-FAR, -2, -1, 8, 9, FAR - 1, FAR):
            self.check_refused(arrows(0, MIXED), enough(0, 1, 2, z), -1)

    def test_tables_do_not_count(self):
        self.check_told(garden(0), enough(0, 1, 2, 0), [0, 0])
        self.check_told(garden(0), enough(0, 1, 2, 1), [0, 1])

    def test_which_net(self):
        for d in OUTSIDE:
            self.check_refused(garden(0) + garden(1), enough(d, 1, 2, 1), -1)
        before = arrows(0, [0, 0]) + arrows(1, MIXED)
        self.check_told(before, enough(1, 1, 2, 1), [0, 1])
        self.check_refused(before, enough(0, 1, 2, 1), -1)
        self.check_told(before, enough(0, 0, 1, 0), [0, 1])


class FewestTest(CallTest):
    def check_fewest(self, parents, x, y, among, z):
        self.check_told(arrows(0, parents), fewest(0, x, y, among), [0, z])

    def test_nothing_need_be_known(self):
        self.check_fewest(MIXED, 0, 2, 7, 0)
        self.check_fewest(MIXED, 0, 2, 0, 0)
        self.check_fewest(HARM, 3, 4, 31, 0)
        self.check_fewest([0, 0], 1, 0, 3, 0)

    def test_one_must_be_known(self):
        self.check_fewest(MIXED, 1, 2, 1, 1)
        self.check_fewest([0, 1, 1], 2, 1, 7, 1)

    def test_several_must_be_known(self):
        # 0 and 1 are causes of both 3 and 4, each by itself.
        self.check_fewest([0, 0, 0, 3, 11], 3, 4, 31, 3)
        self.check_fewest([0, 0, 0, 7, 15], 3, 4, 31, 7)

    def test_among_with_x_or_y_in_it(self):
        for among in (1, 3, 5, 7):
            self.check_fewest(MIXED, 1, 2, among, 1)
        for among in (2, 4, 6):
            self.check_refused(arrows(0, MIXED), fewest(0, 1, 2, among), -4)

    def test_only_those_among_are_taken(self):
        for among, z in ((63, 1), (62, 2), (6, 2), (60, 4), (4, 4), (12, 4), (9, 1)):
            self.check_fewest(ROUND, 4, 5, among, z)
        self.check_refused(arrows(0, ROUND), fewest(0, 4, 5, 8), -4)

    def test_fewer_go_ahead_of_lower_ones(self):
        # 0 and 1 are both causes of 2; 2 of 3 and 4; 3 of 4. To know 2 alone is enough.
        self.check_fewest([0, 0, 3, 4, 12], 3, 4, 31, 4)
        # The same with 0 -> 4, so that 0 would be known too: 2 alone is still enough.
        self.check_fewest([0, 0, 3, 4, 13], 3, 4, 31, 4)

    def test_of_several_the_one_that_comes_first(self):
        self.check_fewest(ROUND, 4, 5, 63, 1)
        # Just 1 2 and 0 3 are enough of two: 0 3 comes first, though as a number it is greater (9 and 6).
        parents = [0, 1, 3, 7, 9, 6]
        self.check_fewest(parents, 5, 4, 63, 9)
        self.check_fewest(parents, 5, 4, 15, 9)
        self.check_fewest(parents, 5, 4, 14, 6)
        self.check_fewest(parents, 5, 4, 7, 6)
        for pair in (3, 5, 10, 12):
            self.check_told(arrows(0, parents), enough(0, 5, 4, pair), [0, 0])

    def test_a_set_that_opens_a_path_needs_another_beside(self):
        # HARM with 2 -> 3 and 2 -> 4 too: 2 must be known, and then 0 or 1 as well.
        parents = [0, 0, 3, 5, 14]
        self.check_fewest(parents, 3, 4, 31, 5)
        self.check_fewest(parents, 3, 4, 30, 6)
        self.check_refused(arrows(0, parents), fewest(0, 3, 4, 28), -4)

    def test_there_is_none(self):
        self.check_refused(arrows(0, [0, 1]), fewest(0, 1, 0, 3), -4)
        self.check_refused(arrows(0, MIXED), fewest(0, 1, 2, 0), -4)
        self.check_refused(arrows(0, MIXED), fewest(0, 2, 0, 7), -4)

    def test_no_row_of_arrows_between_them(self):
        self.check_fewest([0, 0, 3], 0, 1, 7, 0)
        self.check_fewest([0, 1, 2], 2, 0, 7, 2)

    def test_all_joined(self):
        for x, y in itertools.combinations(range(6), 2):
            self.check_fewest(ALL_JOINED, x, y, 63, 2 ** x - 1)
            self.check_refused(arrows(0, ALL_JOINED), fewest(0, y, x, 63), -4)
            if x > 0:
                self.check_refused(arrows(0, ALL_JOINED), fewest(0, x, y, 62), -4)

    def test_x_that_is_y(self):
        for x in range(3):
            self.check_refused(arrows(0, MIXED), fewest(0, x, x, 7), -1)

    def test_no_such_variable(self):
        for wrong in (-FAR, -1, 3, 6, FAR):
            for x, y in ((wrong, 1), (1, wrong), (wrong, wrong)):
                self.check_refused(arrows(0, MIXED), fewest(0, x, y, 0), -1)
        self.check_refused([], fewest(0, 0, 1, 0), -1)

    def test_among_that_is_no_set(self):
        for among in (-FAR, -2, -1, 8, 9, FAR - 1, FAR):
            self.check_refused(arrows(0, MIXED), fewest(0, 1, 2, among), -1)

    def test_arguments_are_looked_at_before_the_rest(self):
        for call in (fewest(0, 1, 0, 4), fewest(0, 1, 0, -1), fewest(0, 1, 2, 0), fewest(0, 1, 1, 0),
                     fewest(2, 1, 0, 0)):
            self.check_refused(arrows(0, [0, 1]), call, -1)
        self.check_refused(arrows(0, [0, 1]), fewest(0, 1, 0, 0), -4)

    def test_which_net(self):
        for d in OUTSIDE:
            self.check_refused(garden(0) + garden(1), fewest(d, 1, 2, 7), -1)
        before = arrows(0, [0, 0]) + arrows(1, MIXED)
        self.check_told(before, fewest(1, 1, 2, 7), [0, 1])
        self.check_refused(before, fewest(0, 1, 2, 3), -1)

    def test_after_a_drop(self):
        before = arrows(0, MIXED + [4]) + [drop(0)]
        self.assertEqual(last(before + [fewest(0, 1, 2, 7)]), [0, 1])
        self.assertEqual(last(before + [fewest(0, 1, 2, 15)]), [-1])


if __name__ == "__main__":
    unittest.main()
