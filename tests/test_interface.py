"""The interface: how calls and answers are written, and that nothing is changed or kept."""

import unittest

from causebookdesk.nets import answers
from tests.helper import FAR, add, ask, chance, clear, drop, garden, likeliest, look

EVERY_CALL = garden(0) + garden(1) + [
    look(0, 2), chance(0, [-1] * 3, [-1, 1, -1], [1, -1, -1]), likeliest(1, [-1, 1, -1], [-1] * 3),
    ask(0, 0, FAR, [-1] * 3), ask(1, 0, 7, [-1] * 3), add(0, 2, 0, [-FAR, FAR]), drop(1), clear(0), look(0, 0)]


def flat(calls):
    return [number for call in calls for number in call]


class InterfaceTest(unittest.TestCase):
    def test_calls_and_answers_number_by_number(self):
        calls = [2, 0, 2, 0, 2, 1, 3,
                 2, 1, 1, 0, 1, 9,
                 4, 0, 0,
                 5, 0, 1, -1, 1, -1, 1, 1,
                 6, 0, 1, -1, 1, -1,
                 7, 0, 0, 0, 1, -1,
                 3, 1,
                 3, 1,
                 5, 1, 0, 0, 0,
                 6, 1, 0, 0,
                 1, 0,
                 4, 0, 0]
        told = [2, 0, 0,
                2, 0, 0,
                5, 0, 2, 0, 1, 3,
                3, 0, 3, 4,
                4, 0, 3, 4, 1,
                1, -4,
                2, 0, 0,
                1, -4,
                3, 0, 1, 1,
                3, 0, 1, 1,
                1, 0,
                1, -1]
        self.assertEqual(answers(calls), told)

    def test_a_refused_call_is_read_to_its_end(self):
        calls = [2, 9, 1, 0, 3, 1, 1, 1, 7, 0, 0, 0, 2, 5, 6, 5, 0, 1, 3, 2, 3, 3, 0, 6, 2, 0, 2, 1, 1, 1, 1]
        self.assertEqual(answers(calls), [1, -1, 1, -1, 1, -1, 1, -1, 1, 0])

    def test_a_single_call(self):
        self.assertEqual(answers([1, 0]), [1, 0])
        self.assertEqual(answers([3, 1]), [1, -4])

    def test_what_is_handed_in_is_not_changed(self):
        calls = flat(EVERY_CALL)
        before = list(calls)
        answers(calls)
        self.assertEqual(calls, before)

    def test_what_is_given_back_is_a_new_list(self):
        calls = flat(EVERY_CALL)
        told = answers(calls)
        again = answers(calls)
        self.assertIsNot(told, again)
        told.clear()
        self.assertEqual(answers(calls), again)

    def test_nothing_is_kept(self):
        calls = flat(EVERY_CALL)
        told = answers(calls)
        self.assertEqual(answers(flat([look(0, 0), look(1, 0), drop(0), drop(1)])), [1, -1, 1, -1, 1, -4, 1, -4])
        self.assertEqual(answers(calls), told)

    def test_only_whole_numbers_are_given_back(self):
        told = answers(flat(EVERY_CALL))
        self.assertIs(type(told), list)
        self.assertEqual({type(number) for number in told}, {int})

    def test_the_list_is_only_read(self):
        class ReadOnly(list):
            def refuse(self, *args, **kwargs):
                raise AssertionError("the list of calls is changed")
            __setitem__ = __delitem__ = __iadd__ = __imul__ = refuse
            append = extend = insert = pop = remove = reverse = sort = clear = refuse
        calls = flat(EVERY_CALL)
        self.assertEqual(answers(ReadOnly(calls)), answers(calls))

    def test_the_longest_list(self):
        building = [add(0, states, 0, [1] * states) for states in (4, 4, 4, 4, 2)]
        none = [-1] * 5
        asking = [ask(0, 0, FAR - 1, none), likeliest(0, none, none), chance(0, none, none, [0] * 5)]
        padding = [add(1, 4, 0, [1] * 2000)] * 7
        calls = building + asking * 16 + padding
        self.assertEqual(len(calls), 60)
        self.assertLess(len(flat(calls)), 15001)
        expected = [2, 0, 0, 2, 0, 1, 2, 0, 2, 2, 0, 3, 2, 0, 4]
        expected += [4, 0, 1, 1, 4, 8, 0, 1, 512, 0, 0, 0, 0, 0, 3, 0, 1, 512] * 16
        expected += [1, -1] * 7
        self.assertEqual(answers(flat(calls)), expected)


if __name__ == "__main__":
    unittest.main()
