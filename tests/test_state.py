"""Promise 4, of state."""

import unittest

from helper import (PARTLY_KEPT, SMALL_LANGUAGE, assert_refused, edit, item, last, mode, one, rule, rules, run,
                    show, state, text)

HUGE = 4294967295
# Each digit puts the mode of its number on top, whatever the mode.
DIGITS = [rule(one(digit), does=(2, int(digit))) for digit in "0123"]
STACKING = rules(*[mode(*DIGITS)] * 4)


class StateAnswered(unittest.TestCase):
    def test_the_first_line(self):
        self.assertEqual(run(state(0), state(1)), [[0, 1, 0], [1, 1, 0]])
        self.assertEqual(last(SMALL_LANGUAGE, text(b"/*", b"a"), show(0, 2), state(0)), [0, 1, 0])

    def test_one_in_the_middle(self):
        self.assertEqual(last(STACKING, text(b"1", b"23", b"x"), state(1)), [1, 2, 1, 0])
        self.assertEqual(last(STACKING, text(b"1", b"23", b"x"), state(2)), [2, 4, 3, 2, 1, 0])

    def test_one_more_than_the_last_line(self):
        self.assertEqual(last(STACKING, text(b"3", b"", b"12"), state(3)), [3, 4, 2, 1, 3, 0])

    def test_how_many_were_coloured_anew(self):
        answered = run(STACKING, text(b"1", b"2", b"3"), state(1), state(1), state(3), state(2), edit(0, 1, b"2"),
                       state(0), state(3), state(3))
        self.assertEqual([part[0] for part in answered], [4, 3, 1, 0, 2, 0, 3, 0, 3, 0])

    def test_the_line_itself_is_not_kept_up(self):
        answered = run(text(b"a", b"b", b"c"), state(1), show(0, 3))
        self.assertEqual([part[0] for part in answered], [3, 1, 2])

    def test_the_modes_begun_in_now_not_those_before(self):
        answered = run(STACKING, text(b"1", b"2", b"3"), show(0, 3), edit(1, 2, b""), state(2), state(3))
        self.assertEqual(answered[-2:], [[1, 2, 1, 0], [1, 3, 3, 1, 0]])


class StateRefused(unittest.TestCase):
    def test_beyond_the_line_behind_the_last_one(self):
        self.assertEqual(last(*PARTLY_KEPT, state(3)), [1, 1, 0])
        assert_refused(self, -1, state(4), *PARTLY_KEPT)
        assert_refused(self, -1, state(HUGE), *PARTLY_KEPT)
        assert_refused(self, -1, state(2))

    def test_a_refusal_keeps_nothing_up(self):
        answered = run(text(b"a", b"b"), state(3), show(0, 2))
        self.assertEqual([part[0] for part in answered], [2, -1, 2])

    def test_lines_taken_out_are_not_there(self):
        self.assertEqual(run(text(b"a", b"b"), edit(0, 1), state(1), state(2)), [[2], [1], [1, 1, 0], [-1]])


class ModesAtFirst(unittest.TestCase):
    def test_one_mode_of_colour_0_that_does_not_end(self):
        self.assertEqual(run(text(b"a", b"b"), show(0, 2), state(2)), [[2], [2, 1, 1, 0, 1, 1, 0], [0, 1, 0]])

    def test_the_text_begins_in_mode_0_whatever_it_is(self):
        ending = rules(mode(rule(item(inverse=1), colour=4), ends=1), mode())
        self.assertEqual(run(ending, text(b"a"), state(0), state(1)), [[2], [1], [0, 1, 0], [1, 1, 0]])


if __name__ == "__main__":
    unittest.main()
