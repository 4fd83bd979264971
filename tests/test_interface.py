"""The interface: many calls on one object, nothing kept, nothing changed."""

import unittest

from helper import HUGE, WORKED, conflicts, cross, doubts, evidence, keptout, leftout, load
from wordgaps.gaps import answers

CALLS = [conflicts(1), load(WORKED), conflicts(1), leftout(1), conflicts(2), leftout(2), conflicts(3), leftout(3),
         evidence(1, 2, 1), load("margins !"), evidence(HUGE, -HUGE, HUGE), conflicts(1)]
TOLD = [1, -1, 3, 1, 3, 0, 5, 3, 1, 2, 2, 2, 2, 1, 2, 5, 1, 2, 3, 1, 3, 2, 1, 2, 1, 0, 1, 0, 3, 1, 2, 2,
        3, 0, 2, 8, 1, -3, 5, 3, 1, 2, 2, 2]
MORE = [doubts(1), keptout(3, 0), cross(3), load(WORKED), doubts(1), keptout(2, 0), keptout(3, 0), cross(3),
        load("margins !"), keptout(HUGE, -HUGE), keptout(1, HUGE), doubts(1)]
TOLD_MORE = [1, -1, 1, -1, 1, -1, 3, 1, 3, 0, 7, 2, 2, 3, 7, 2, 2, 4, 1, 0, 4, 1, 0, 0, 1, 5, 0, 3, 0, 1, 3,
             3, 0, 2, 8, 1, -3, 1, -2, 7, 2, 2, 3, 7, 2, 2, 4]


def flat(calls):
    return [number for call in calls for number in call]


class Interface(unittest.TestCase):
    def test_twelve_calls(self):
        self.assertEqual([len(CALLS), len(MORE)], [12, 12])
        self.assertEqual(answers(flat(CALLS)), TOLD)
        self.assertEqual(answers(flat(MORE)), TOLD_MORE)

    def test_kinds(self):
        for calls in (CALLS, MORE):
            told = answers(flat(calls))
            self.assertIs(type(told), list)
            for number in told:
                self.assertIs(type(number), int)

    def test_what_is_handed_in_stays(self):
        for calls in (CALLS, MORE):
            handed_in = flat(calls)
            answers(handed_in)
            self.assertEqual(handed_in, flat(calls))

    def test_it_may_not_even_be_changed_for_a_while(self):
        class Fixed(list):
            def refuse(self, *told):
                raise AssertionError("changed")
            __setitem__ = __delitem__ = __iadd__ = __imul__ = refuse
            append = extend = insert = pop = remove = clear = reverse = sort = refuse
        self.assertEqual(answers(Fixed(flat(CALLS))), TOLD)
        self.assertEqual(answers(Fixed(flat(MORE))), TOLD_MORE)

    def test_a_second_time_as_the_first(self):
        for calls, told in ((flat(CALLS), TOLD), (flat(MORE), TOLD_MORE), (flat(CALLS), TOLD)):
            self.assertEqual(answers(calls), told)
            self.assertEqual(answers(calls), told)

    def test_nothing_is_held_at_the_beginning(self):
        answers(load(WORKED))
        self.assertEqual(answers(conflicts(1) + leftout(99) + evidence(0, 0, 0)), [1, -1, 1, -1, 1, -1])
        self.assertEqual(answers(doubts(1) + keptout(1, 0) + cross(99)), [1, -1, 1, -1, 1, -1])

    def test_what_is_told_is_a_new_list(self):
        first = answers(flat(CALLS))
        first.append(5)
        self.assertEqual(answers(flat(CALLS)), TOLD)

    def test_an_empty_text(self):
        self.assertEqual(answers([0, 0, 1, 1]), [3, 0, 3, 0, 1, -1])

    def test_the_longest_texts(self):
        self.assertEqual(answers(load([32] * 8192) + load([35] * 8192)), [3, 0, 1, 4096] * 2)


if __name__ == "__main__":
    unittest.main()
