"""stale: how many lines would be coloured anew, were all kept up; and that nothing is done by it."""

import unittest

from helper import (PARTLY_KEPT, SMALL_LANGUAGE, alone, anew, edit, last, lines, mode, one, pair, rule, rules, run,
                    show, stale, state, text)

FOUR = (SMALL_LANGUAGE, text(b"a", b"b", b"c", b"d"))


class StaleAnswered(unittest.TestCase):
    def assert_stale(self, count, *before):
        """So many are told, told again, and then so many are coloured anew, whoever keeps up all lines."""
        lines_there = last(*before, edit(0, 0))[0]
        answered = run(*before, stale(), stale(), show(0, lines_there), stale())
        self.assertEqual([answered[-4], answered[-3], answered[-2][:1], answered[-1]],
                         [[count], [count], [count], [0]])
        self.assertEqual(run(*before, stale(), state(lines_there))[-1][0], count)

    def test_nothing_kept(self):
        self.assert_stale(1)
        self.assert_stale(4, *FOUR)
        self.assert_stale(40, text(*[b"x"] * 40))

    def test_all_kept(self):
        self.assert_stale(0, *FOUR, show(0, 4))
        self.assert_stale(0, show(0, 1))

    def test_some_kept(self):
        self.assert_stale(2, *FOUR, show(0, 2))
        self.assert_stale(1, *PARTLY_KEPT)
        self.assert_stale(3, *FOUR, state(1))

    def test_behind_an_edit_that_changes_the_modes_of_the_lines_behind_it(self):
        self.assert_stale(3, *FOUR, show(0, 4), edit(1, 2, b"/*"))
        self.assert_stale(4, *FOUR, show(0, 4), edit(0, 1, b"/*"))

    def test_behind_one_that_does_not(self):
        self.assert_stale(1, *FOUR, show(0, 4), edit(1, 2, b'"'))
        self.assert_stale(1, *FOUR, show(0, 4), edit(3, 4, b"/*"))
        self.assert_stale(2, *FOUR, show(0, 4), edit(2, 2, b"e", b"f"))
        self.assert_stale(0, *FOUR, show(0, 4), edit(1, 3))
        self.assert_stale(0, *FOUR, show(0, 4), edit(2, 2))

    def test_lines_taken_out_that_had_changed_the_modes(self):
        before = (SMALL_LANGUAGE, text(b"/*", b"a", b"*/", b"b"), show(0, 4))
        self.assert_stale(2, *before, edit(0, 1))
        self.assert_stale(1, *before, edit(2, 3))

    def test_lines_behind_a_changed_one_that_begin_once_more_as_they_are_kept(self):
        closing = (SMALL_LANGUAGE, text(b"a", b"b", b"/* */", b"c", b"d"), show(0, 5))
        self.assert_stale(3, *closing, edit(0, 1, b"/*"))
        self.assert_stale(4, *closing, edit(0, 1, b"/*"), edit(4, 5, b"e"))
        # Line 1 was coloured within the comment; the lines behind it were not come to.
        self.assert_stale(2, *FOUR, show(0, 4), edit(0, 1, b"/*"), show(0, 2), edit(0, 1, b"a"))
        self.assert_stale(1, *FOUR, show(0, 4), edit(0, 1, b"/*"), show(0, 1), edit(0, 1, b"a"))

    def test_by_the_whole_stack_not_by_its_top(self):
        put = rule(one("+"), does=(2, 1))
        self.assert_stale(2, rules(mode(put), mode(put)), text(b"+", b"x"), show(0, 2), edit(0, 1, b"++"))

    def test_new_rules_and_a_new_text_take_away_what_is_kept(self):
        self.assert_stale(4, *FOUR, show(0, 4), SMALL_LANGUAGE)
        self.assert_stale(2, *FOUR, show(0, 4), text(b"a", b"b"))

    def test_behind_a_refusal_it_is_as_it_was(self):
        self.assert_stale(2, *FOUR, show(0, 2), rules(), text(), edit(0, 4), show(0, 5), state(5), pair(0, 1),
                          lines(1, 0))


class NothingIsDone(unittest.TestCase):
    def test_nothing_is_kept_up(self):
        answered = run(*FOUR, stale(), show(0, 1), stale(), show(0, 3), stale(), show(0, 4))
        self.assertEqual([part[0] for part in answered[2:]], [4, 1, 3, 2, 1, 1])

    def test_nothing_kept_is_lost(self):
        # Asked while the comment is there, though line 1 to 3 would then be coloured otherwise.
        answered = run(*FOUR, show(0, 4), edit(0, 1, b"/*"), stale(), edit(0, 1, b"a"), stale(), show(0, 4))
        self.assertEqual([part[0] for part in answered[3:]], [4, 4, 4, 1, 1])

    def test_what_is_shown_is_the_same(self):
        self.assertEqual(last(*PARTLY_KEPT, stale(), show(0, 3)), last(*PARTLY_KEPT, show(0, 3)))
        self.assertEqual(last(*PARTLY_KEPT, stale(), alone()), last(*PARTLY_KEPT, alone()))
        self.assertEqual(last(*PARTLY_KEPT, stale(), lines(0, 3)), last(*PARTLY_KEPT, lines(0, 3)))
        self.assertEqual(last(*PARTLY_KEPT, stale(), anew()), [3])


if __name__ == "__main__":
    unittest.main()
