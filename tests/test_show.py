"""Promise 4, of show, and how lines are kept up."""

import unittest

from helper import (PARTLY_KEPT, SMALL_LANGUAGE, assert_refused, edit, last, mode, one, rule, rules, run, show,
                    state, text)

HUGE = 4294967295


def anew(*calls):
    """The first number of each answer: of show and state how many lines were coloured anew."""
    return [part[0] for part in run(*calls)]


class ShowAnswered(unittest.TestCase):
    def test_token_by_token(self):
        shown = last(SMALL_LANGUAGE, text(b'ab "c', b"(d)/*e", b"", b"*/f"), show(0, 4))
        self.assertEqual(shown, [
            4,
            4, 2, 1, 3, 0, 4, 2, 5, 3,
            5, 1, 5, 2, 1, 3, 5, 5, 4, 6, 6,
            0,
            2, 2, 4, 3, 1,
        ])

    def test_some_of_the_lines(self):
        before = (SMALL_LANGUAGE, text(b"/*", b"a", b"*/", b"b"))
        self.assertEqual(last(*before, show(1, 3)), [3, 1, 1, 6, 1, 2, 4])
        self.assertEqual(last(*before, show(3, 4)), [4, 1, 1, 1])
        self.assertEqual(last(*before, show(0, 1)), [1, 1, 2, 4])

    def test_without_rules_each_byte_is_a_token(self):
        self.assertEqual(last(text(b"abc"), show(0, 1)), [1, 3, 1, 0, 2, 0, 3, 0])

    def test_from_equal_to_to(self):
        before = (SMALL_LANGUAGE, text(b"a", b"b", b"c"))
        self.assertEqual(run(*before, show(0, 0), show(2, 2), show(2, 2), show(3, 3), show(3, 3))[2:],
                         [[0], [2], [0], [1], [0]])


class KeptUp(unittest.TestCase):
    def test_first_time_and_asked_again(self):
        self.assertEqual(anew(text(b"a", b"b", b"c"), show(0, 3), show(0, 3), show(2, 3)), [3, 3, 0, 0])

    def test_only_up_to_the_last_line_asked(self):
        self.assertEqual(anew(text(b"a", b"b", b"c"), show(0, 1), show(0, 2), show(0, 3)), [3, 1, 1, 1])

    def test_lines_ahead_of_those_shown_are_kept_too(self):
        self.assertEqual(anew(text(b"a", b"b", b"c"), show(2, 3), show(0, 2)), [3, 3, 0])

    def test_an_edit_that_changes_the_modes_behind_it(self):
        before = (SMALL_LANGUAGE, text(b"a", b"b", b"c", b"d"), show(0, 4))
        answered = run(*before, edit(1, 2, b"/*"), show(0, 4), show(0, 4))
        self.assertEqual(answered[4], [3, 1, 1, 1, 1, 2, 4, 1, 1, 6, 1, 1, 6])
        self.assertEqual(answered[5], [0] + answered[4][1:])

    def test_an_edit_that_does_not(self):
        before = (SMALL_LANGUAGE, text(b"a", b"b", b"c", b"d"), show(0, 4))
        self.assertEqual(last(*before, edit(1, 2, b'"'), show(0, 4)), [1, 1, 1, 1, 1, 1, 2, 1, 1, 1, 1, 1, 1])

    def test_an_edit_whose_change_ends_some_lines_behind_it(self):
        before = (SMALL_LANGUAGE, text(b"a", b"b", b"/* */", b"c", b"d"), show(0, 5))
        # Line 3 begins again as it began before, and so do all behind it.
        shown = last(*before, edit(0, 1, b"/*"), show(0, 5))
        self.assertEqual(shown, [3, 1, 2, 4, 1, 1, 6, 4, 1, 6, 2, 6, 3, 6, 5, 4, 1, 1, 1, 1, 1, 1])

    def test_what_is_kept_fits_by_the_whole_stack_not_by_its_top(self):
        put = rule(one("+"), colour=3, does=(2, 1))
        answered = run(rules(mode(put), mode(put, colour=1)), text(b"+", b"x"), show(0, 2), edit(0, 1, b"++"),
                       show(0, 2), state(2))
        self.assertEqual(answered[4], [2, 2, 1, 3, 2, 3, 1, 1, 1])
        self.assertEqual(answered[5], [0, 3, 1, 1, 0])

    def test_an_edit_within_a_comment_that_leaves_it_a_comment(self):
        answered = run(SMALL_LANGUAGE, text(b"a", b"/*", b"*/", b"b"), show(0, 4), edit(1, 2, b"/* c"), show(0, 4))
        self.assertEqual(answered[-1][0], 1)

    def test_two_edits_apart_and_nothing_between_them(self):
        before = (text(b"a", b"b", b"c", b"d", b"e"), show(0, 5), edit(0, 1, b"f"), edit(4, 5, b"g"))
        self.assertEqual(anew(*before, show(0, 4), show(0, 5)), [5, 5, 5, 5, 1, 1])


class ShowRefused(unittest.TestCase):
    def test_to_beyond_the_lines(self):
        assert_refused(self, -1, show(0, 4), *PARTLY_KEPT)
        assert_refused(self, -1, show(4, 4), *PARTLY_KEPT)
        assert_refused(self, -1, show(0, HUGE), *PARTLY_KEPT)
        assert_refused(self, -1, show(0, 2))
        self.assertEqual(last(*PARTLY_KEPT, show(3, 3)), [1])

    def test_to_below_from(self):
        assert_refused(self, -1, show(1, 0), *PARTLY_KEPT)
        assert_refused(self, -1, show(3, 2), *PARTLY_KEPT)
        assert_refused(self, -1, show(HUGE, 3), *PARTLY_KEPT)
        assert_refused(self, -1, show(1, 0))

    def test_a_refusal_keeps_nothing_up(self):
        self.assertEqual(anew(text(b"a", b"b"), show(0, 3), show(2, 1), show(0, 2)), [2, -1, -1, 2])


if __name__ == "__main__":
    unittest.main()
