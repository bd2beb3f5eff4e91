"""Promise 8: draw."""

import itertools
import unittest

from tests.helper import FAR, OUTSIDE, CallTest, add, chance, count, draw, garden, last, run

NONE = [-1, -1, -1]
MOST_TOTAL = 2 ** 32 - 1
WORDS_END = 2 ** 64


def fit_end(total):
    """The greatest multiple of the total that's not above 2^64."""
    return WORDS_END // total * total


class DrawTest(CallTest):
    def test_one_word_for_each_variable(self):
        self.check_told(garden(0), draw(0, NONE, [0, 0, 0]), [0, 3, 0, 0, 0])
        # The rows that are drawn from: rain 1 4; the sprinkler with rain 9 1; grass with both 1 9, with rain alone 3 7.
        self.check_told(garden(0), draw(0, NONE, [1, 9, 0]), [0, 3, 1, 1, 0])
        self.check_told(garden(0), draw(0, NONE, [1, 9, 1]), [0, 3, 1, 1, 1])
        self.check_told(garden(0), draw(0, NONE, [1, 8, 2]), [0, 3, 1, 0, 0])
        self.check_told(garden(0), draw(0, NONE, [1, 8, 3]), [0, 3, 1, 0, 1])

    def test_the_state_is_the_first_that_comes_to_more(self):
        before = [add(0, 4, 0, [2, 3, 1, 4])]
        for word, state in enumerate([0, 0, 1, 1, 1, 2, 3, 3, 3, 3, 0, 0, 1]):
            self.check_told(before, draw(0, [-1], [word]), [0, 1, state])

    def test_a_state_of_weight_0_is_never_drawn(self):
        for weights, states in (([0, 2], [1, 1]), ([2, 0], [0, 0]), ([1, 0, 1], [0, 2]), ([0, 0, 1, 1], [2, 3]),
                                ([1, 0, 0, 1], [0, 3]), ([0, 1, 1, 0], [1, 2])):
            for word in range(6):
                self.check_told([add(0, len(weights), 0, weights)], draw(0, [-1], [word]), [0, 1, states[word % 2]])

    def test_how_often_each_world_is_drawn(self):
        drawn = {}
        for words in itertools.product(range(5), range(10), range(10)):
            world = tuple(last(garden(0) + [draw(0, NONE, words)])[2:])
            drawn[world] = drawn.get(world, 0) + 1
        for world in itertools.product((0, 1), repeat=3):
            part, whole = last(garden(0) + [chance(0, NONE, NONE, world)])[1:]
            self.assertEqual(drawn.get(world, 0) * whole, part * 500)

    def test_the_row_is_that_of_the_parents_states(self):
        weights = []
        for row in range(6):
            weights += [row, 6 - row]
        before = [add(0, 2, 0, [1, 1]), add(0, 1, 0, [5]), add(0, 3, 0, [1, 1, 1]), add(0, 2, 5, weights)]
        for first, third, word in itertools.product(range(2), range(3), range(6)):
            state = 0 if word < first * 3 + third else 1
            self.check_told(before, draw(0, [-1] * 4, [first, 0, third, word]), [0, 4, first, 0, third, state])
            self.check_told(before, draw(0, [first, -1, third, -1], [0, word]), [0, 2, first, 0, third, state])

    def test_no_words(self):
        self.check_told([], draw(0, [], []), [0, 0])
        self.check_told(garden(0), draw(0, [0, 1, 0], []), [0, 0, 0, 1, 0])
        self.check_refused(garden(0), draw(0, NONE, []), -5)
        self.check_refused([add(0, 1, 0, [1])], draw(0, [-1], []), -5)

    def test_what_is_set_takes_no_word(self):
        self.check_told(garden(0), draw(0, [1, -1, -1], [9, 1]), [0, 2, 1, 1, 1])
        self.check_told(garden(0), draw(0, [-1, 0, -1], [1, 2]), [0, 2, 1, 0, 0])
        self.check_told(garden(0), draw(0, [-1, -1, 0], [0, 3]), [0, 2, 0, 1, 0])
        self.check_told(garden(0), draw(0, [0, 0, -1], [9]), [0, 1, 0, 0, 0])

    def test_what_is_set_may_have_no_weight(self):
        before = [add(0, 2, 0, [1, 0]), add(0, 2, 1, [1, 0, 0, 1])]
        self.check_told(before, draw(0, [1, -1], [0]), [0, 1, 1, 1])
        self.check_told(before, draw(0, [-1, 1], [0]), [0, 1, 0, 1])

    def test_everything_is_set(self):
        for world in itertools.product((0, 1), repeat=3):
            self.check_told(garden(0), draw(0, world, [7] * 40), [0, 0] + list(world))

    def test_words_are_left_over(self):
        self.check_told(garden(0), draw(0, NONE, [1, 9, 1, 5, WORDS_END - 1]), [0, 3, 1, 1, 1])
        self.check_told([], draw(0, [], [1, 2, 3]), [0, 0])

    def test_too_few_words(self):
        for words in ([0], [0, 0], [WORDS_END - 1, 0, 0], [0, WORDS_END - 1, 0], [0, 0, WORDS_END - 1]):
            self.check_refused(garden(0), draw(0, NONE, words), -5)
        self.check_refused(garden(0), draw(0, NONE, [WORDS_END - 1] * 40), -5)
        self.check_refused(garden(0), draw(0, [0, -1, -1], [0]), -5)

    def test_words_that_do_not_fit_are_passed_by_and_counted(self):
        high = WORDS_END - 1
        self.check_told(garden(0), draw(0, NONE, [high, 1, 9, 1]), [0, 4, 1, 1, 1])
        self.check_told(garden(0), draw(0, NONE, [1, high, high, 9, high, 1, 4]), [0, 6, 1, 1, 1])
        self.check_told(garden(0), draw(0, [-1, 0, -1], [high] * 38 + [1, 3]), [0, 40, 1, 0, 1])

    def test_up_to_40_words(self):
        before = [add(0, 2, 0, [1, 1])] * 6
        self.check_told(before, draw(0, [-1] * 6, [1, 0, 1, 1, 0, 1] + [0] * 34), [0, 6, 1, 0, 1, 1, 0, 1])
        for length in (41, 42, 60):
            self.check_refused(before, draw(0, [-1] * 6, [0] * length), -1)
            self.check_refused(before, draw(0, [0] * 6, [0] * length), -1)
            self.check_refused([], draw(0, [], [0] * length), -1)

    def test_words_from_0_to_the_last(self):
        before = [add(0, 2, 0, [1, 1])]
        self.check_told(before, draw(0, [-1], [0]), [0, 1, 0])
        self.check_told(before, draw(0, [-1], [WORDS_END - 1]), [0, 1, 1])
        for word in (-FAR, -1, WORDS_END):
            self.check_refused(before, draw(0, [-1], [word]), -1)
            # Also where it wouldn't be taken.
            self.check_refused(before, draw(0, [-1], [0, 0, word]), -1)
            self.check_refused(before, draw(0, [0], [word]), -1)

    def test_a_total_of_1(self):
        for word in (0, 1, WORDS_END - 1):
            self.check_told([add(0, 3, 0, [0, 1, 0])], draw(0, [-1], [word]), [0, 1, 1])

    def test_the_greatest_total(self):
        before = [add(0, 2, 0, [MOST_TOTAL - 1, 1])]
        self.assertEqual(fit_end(MOST_TOTAL), WORDS_END - 1)
        self.check_told(before, draw(0, [-1], [MOST_TOTAL - 2]), [0, 1, 0])
        self.check_told(before, draw(0, [-1], [MOST_TOTAL - 1]), [0, 1, 1])
        self.check_told(before, draw(0, [-1], [MOST_TOTAL]), [0, 1, 0])
        self.check_told(before, draw(0, [-1], [WORDS_END - 2]), [0, 1, 1])
        self.check_told(before, draw(0, [-1], [WORDS_END - 3]), [0, 1, 0])
        self.check_told(before, draw(0, [-1], [WORDS_END - 1, 0]), [0, 2, 0])
        self.check_refused(before, draw(0, [-1], [WORDS_END - 1]), -5)

    def test_just_below_and_just_at_the_greatest_multiple(self):
        for total in (3, 5, 6, 7, 10, 1000, 2 ** 31 + 1, 2 ** 32 - 5, MOST_TOTAL):
            before = [add(0, 2, 0, [total - 1, 1])]
            end = fit_end(total)
            self.check_told(before, draw(0, [-1], [end - 1]), [0, 1, 1])
            self.check_told(before, draw(0, [-1], [end - 2]), [0, 1, 0])
            self.check_refused(before, draw(0, [-1], [end]), -5)
            self.check_told(before, draw(0, [-1], [end, total - 1]), [0, 2, 1])

    def test_totals_that_divide_2_to_the_64(self):
        for total in (1, 2, 4, 256, 2 ** 31):
            before = [add(0, 2, 0, [0, total])]
            self.check_told(before, draw(0, [-1], [WORDS_END - 1]), [0, 1, 1])
        before = [add(0, 2, 0, [2 ** 31 - 1, 1])]
        self.check_told(before, draw(0, [-1], [WORDS_END - 1]), [0, 1, 1])

    def test_each_variable_has_a_total_of_its_own(self):
        before = [add(0, 2, 0, [1, 1]), add(0, 3, 1, [1, 1, 1, 2, 0, 1]), add(0, 2, 0, [4, 1])]
        high = WORDS_END - 1
        self.check_told(before, draw(0, NONE, [high, high, 4, high, 4]), [0, 5, 1, 0, 1])

    def test_set_that_is_no_assignment(self):
        for row in ([], [-1, -1], [-1] * 4, [-1] * 20, [2, -1, -1], [-1, -1, 2], [-2, -1, -1], [-1, FAR, -1],
                    [-1, -1, -FAR]):
            self.check_refused(garden(0), draw(0, row, [0] * 10), -1)

    def test_arguments_are_looked_at_before_the_words_run_out(self):
        self.check_refused(garden(0), draw(0, [2, -1, -1], []), -1)
        self.check_refused(garden(0), draw(0, NONE, [-1]), -1)
        self.check_refused(garden(0), draw(0, NONE, [FAR]), -1)
        self.check_refused(garden(0), draw(0, NONE, [WORDS_END - 1] * 41), -1)

    def test_which_net(self):
        for d in OUTSIDE:
            self.check_refused(garden(0) + garden(1), draw(d, NONE, [0, 0, 0]), -1)
            self.check_refused([], draw(d, [], []), -1)
        self.check_told(garden(1), draw(1, NONE, [0, 0, 0]), [0, 3, 0, 0, 0])
        self.check_refused(garden(1), draw(0, NONE, [0, 0, 0]), -1)

    def test_each_draw_begins_with_its_own_words(self):
        calls = [draw(0, NONE, [1, 9, 1]), draw(0, NONE, [0]), draw(0, NONE, [1, 9, 1]), count(0)]
        self.assertEqual(run(garden(0) + calls)[3:], [[0, 3, 1, 1, 1], [-5], [0, 3, 1, 1, 1], [0, 3]])


if __name__ == "__main__":
    unittest.main()
