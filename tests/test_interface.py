"""The interface: how calls and answers are written, and that nothing is changed or kept."""

import unittest

from causebookdesk.nets import answers
from tests.helper import (ALL_JOINED, FAR, CallTest, add, alike, apart, arrows, ask, chance, clear, count, draw, drop,
                          enough, fewest, garden, likeliest, look, run, sure)

EVERY_CALL = garden(0) + garden(1) + [
    look(0, 2), chance(0, [-1] * 3, [-1, 1, -1], [1, -1, -1]), likeliest(1, [-1, 1, -1], [-1] * 3),
    ask(0, 0, FAR, [-1] * 3), ask(1, 0, 7, [-1] * 3), add(0, 2, 0, [-FAR, FAR]),
    draw(0, [-1] * 3, [FAR - 1, 4, 3, 2, 1]), draw(1, [-1, 0, -1], [4]), draw(0, [0] * 3, [FAR]),
    apart(0, 0, 0, 1, 4, 2), apart(1, 0, 1, 2, 4, 0), apart(1, 4, 0, 1, 4, 0), apart(0, 0, 0, 1, 1, 0),
    enough(0, 1, 2, 1), enough(1, 1, 2, 0), enough(0, 1, 2, FAR), fewest(0, 1, 2, 7), fewest(1, 2, 0, 7),
    alike(0, 1, [2, 0, 1]), alike(1, 0, [0, 1]), sure(0, 2), sure(1, -FAR), count(0), count(FAR),
    drop(1), clear(0), look(0, 0), count(0), alike(1, 0, [0, 1])]


def flat(calls):
    return [number for call in calls for number in call]


class InterfaceTest(CallTest):
    def test_calls_and_answers_number_by_number(self):
        calls = [2, 0, 2, 0, 2, 1, 3,
                 2, 1, 1, 0, 1, 9,
                 4, 0, 0,
                 5, 0, 1, -1, 1, -1, 1, 1,
                 6, 0, 1, -1, 1, -1,
                 7, 0, 0, 0, 1, -1,
                 3, 1,
                 3, 1,
                 5, 1, 0, 0, 0,
                 6, 1, 0, 0,
                 1, 0,
                 4, 0, 0]
        told = [2, 0, 0,
                2, 0, 0,
                5, 0, 2, 0, 1, 3,
                3, 0, 3, 4,
                4, 0, 3, 4, 1,
                1, -4,
                2, 0, 0,
                1, -4,
                3, 0, 1, 1,
                3, 0, 1, 1,
                1, 0,
                1, -1]
        self.assertEqual(answers(calls), told)

    def test_the_other_calls_number_by_number(self):
        calls = [2, 0, 2, 0, 2, 1, 3,
                 2, 0, 1, 1, 2, 5, 5,
                 2, 0, 3, 3, 6, 1, 0, 2, 0, 3, 0,
                 2, 1, 1, 0, 1, 1,
                 8, 0, 3, -1, -1, -1, 3, 2, 6, 4,
                 8, 0, 3, 0, -1, -1, 4, 9, 0, 7, 7,
                 8, 0, 3, -1, -1, -1, 1, 0,
                 8, 1, 1, 0, 0,
                 9, 0, 0, 0, 1, 4, 0,
                 9, 0, 0, 1, 2, 4, 0,
                 9, 0, 4, 0, 1, 4, 2,
                 10, 0, 1, 2, 1,
                 10, 0, 1, 2, 0,
                 10, 0, 1, 2, 4,
                 11, 0, 1, 2, 7,
                 11, 0, 2, 1, 7,
                 12, 0, 0, 3, 2, 1, 0,
                 12, 0, 1, 3, 0, 1, 2,
                 12, 1, 0, 0,
                 13, 0, 2,
                 13, 0, 3,
                 14, 0,
                 14, 1,
                 14, 2]
        told = [2, 0, 0,
                2, 0, 1,
                2, 0, 2,
                2, 0, 0,
                5, 0, 3, 1, 0, 1,
                5, 0, 2, 0, 0, 0,
                1, -5,
                3, 0, 0, 0,
                3, 0, 0, 2,
                3, 0, 1, 2,
                1, 0,
                2, 0, 1,
                2, 0, 0,
                1, -1,
                2, 0, 1,
                1, -4,
                2, 0, 1,
                2, 0, 0,
                1, -1,
                2, 0, 0,
                1, -1,
                2, 0, 3,
                2, 0, 1,
                1, -1]
        self.assertEqual(answers(calls), told)

    def test_a_refused_call_is_read_to_its_end(self):
        calls = [2, 9, 1, 0, 3, 1, 1, 1, 7, 0, 0, 0, 2, 5, 6, 5, 0, 1, 3, 2, 3, 3, 0, 6, 2, 0, 2, 1, 1, 1, 1]
        self.assertEqual(answers(calls), [1, -1, 1, -1, 1, -1, 1, -1, 1, 0])
        calls = [8, 0, 2, 5, 6, 3, 1, 2, 3, 9, 9, 8, 7, 6, 5, 4, 10, 0, 7, 8, 9, 11, 3, 1, 2, 3, 12, 5, 0, 2, 1, 0,
                 12, 0, 6, 1, 14, 13, 2, 14, 14, -1, 14, 0]
        self.assertEqual(answers(calls), [1, -1] * 8 + [2, 0, 0])

    def test_a_single_call(self):
        self.assertEqual(answers([1, 0]), [1, 0])
        self.assertEqual(answers([3, 1]), [1, -4])

    def test_what_is_handed_in_is_not_changed(self):
        calls = flat(EVERY_CALL)
        before = list(calls)
        answers(calls)
        self.assertEqual(calls, before)

    def test_what_is_given_back_is_a_new_list(self):
        calls = flat(EVERY_CALL)
        told = answers(calls)
        again = answers(calls)
        self.assertIsNot(told, again)
        told.clear()
        self.assertEqual(answers(calls), again)

    def test_nothing_is_kept(self):
        calls = flat(EVERY_CALL)
        told = answers(calls)
        self.assertEqual(answers(flat([look(0, 0), look(1, 0), drop(0), drop(1)])), [1, -1, 1, -1, 1, -4, 1, -4])
        self.assertEqual(answers(calls), told)

    def test_only_whole_numbers_are_given_back(self):
        told = answers(flat(EVERY_CALL))
        self.assertIs(type(told), list)
        self.assertEqual({type(number) for number in told}, {int})

    def test_the_list_is_only_read(self):
        class ReadOnly(list):
            def refuse(self, *args, **kwargs):
                raise AssertionError("the list of calls is changed")
            __setitem__ = __delitem__ = __iadd__ = __imul__ = refuse
            append = extend = insert = pop = remove = reverse = sort = clear = refuse
        calls = flat(EVERY_CALL)
        self.assertEqual(answers(ReadOnly(calls)), answers(calls))

    def test_arguments_far_out(self):
        # Each call as it is answered, and then with each of its whole numbers far out in turn.
        calls = [draw(0, [-1] * 3, [1, 2, 3]), apart(0, 0, 0, 1, 4, 2), enough(0, 1, 2, 1), fewest(0, 1, 2, 7),
                 alike(0, 1, [0, 1, 2]), sure(0, 2), count(0)]
        plain = {8: 1, 9: 6, 10: 4, 11: 4, 12: 2, 13: 2, 14: 1}
        before = garden(0) + garden(1)
        for call in calls:
            self.assertEqual(run(before + [call])[-1][0], 0)
            for place in range(1, plain[call[0]] + 1):
                for wrong in (-FAR, 1 - FAR, -7, -1, 8, 64, FAR - 1, FAR):
                    self.check_refused(before, call[:place] + [wrong] + call[place + 1:], -1)

    def test_rows_far_out(self):
        before = garden(0) + garden(1)
        for wrong in (-FAR, 1 - FAR, -2, 3, FAR - 1, FAR):
            for place in range(3):
                row = [0, 1, 1]
                row[place] = wrong
                self.check_refused(before, draw(0, row, [1, 2, 3]), -1)
                row = [2, 1, 0]
                row[place] = wrong
                self.check_refused(before, alike(0, 1, row), -1)
        self.check_refused(before, draw(0, [-1] * 20, [0] * 60), -1)
        self.check_refused(before, draw(0, [-1] * 3, [0] * 60), -1)
        self.check_refused(before, alike(0, 1, [0, 1, 2] * 6), -1)

    def test_60_calls_on_nets_with_all_joined(self):
        building = arrows(0, ALL_JOINED) + arrows(1, ALL_JOINED)
        asking = [apart(0, 0, 0, 1, 32, 30), enough(0, 4, 5, 15), fewest(0, 4, 5, 63), fewest(0, 5, 4, 63),
                  alike(0, 1, [5, 4, 3, 2, 1, 0]), sure(0, 5), count(0), draw(0, [-1] * 6, [FAR - 1] * 6)]
        told = [[0, 0, 5], [0, 1], [0, 15], [-4], [0, 1], [0, 0], [0, 6], [0, 6] + [0] * 6]
        calls = building + asking * 6
        self.assertEqual(len(calls), 60)
        self.assertEqual(run(calls)[12:], told * 6)

    def test_calls_that_only_ask_change_nothing(self):
        # Each answer is the same, whatever was asked ahead of it.
        calls = EVERY_CALL[12:30]
        before = garden(0) + garden(1)
        alone = [run(before + [call])[-1] for call in calls]
        self.assertEqual(run(before + calls)[6:], alone)
        self.assertEqual(run(before + calls[::-1])[6:], alone[::-1])

    def test_the_longest_list(self):
        building = [add(0, states, 0, [1] * states) for states in (4, 4, 4, 4, 2)]
        none = [-1] * 5
        asking = [ask(0, 0, FAR - 1, none), likeliest(0, none, none), chance(0, none, none, [0] * 5)]
        padding = [add(1, 4, 0, [1] * 2000)] * 7
        calls = building + asking * 16 + padding
        self.assertEqual(len(calls), 60)
        self.assertLess(len(flat(calls)), 15001)
        expected = [2, 0, 0, 2, 0, 1, 2, 0, 2, 2, 0, 3, 2, 0, 4]
        expected += [4, 0, 1, 1, 4, 8, 0, 1, 512, 0, 0, 0, 0, 0, 3, 0, 1, 512] * 16
        expected += [1, -1] * 7
        self.assertEqual(answers(flat(calls)), expected)


if __name__ == "__main__":
    unittest.main()
