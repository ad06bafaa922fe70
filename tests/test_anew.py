"""anew: all that is kept is taken away, and all lines are coloured."""

import unittest

from helper import SMALL_LANGUAGE, anew, edit, last, pair, run, show, stale, state, text

FOUR = (SMALL_LANGUAGE, text(b"a", b"/* (", b") */", b"(d"))


class AnewAnswered(unittest.TestCase):
    def test_how_many_lines_there_are_whatever_was_kept(self):
        self.assertEqual(run(anew(), anew()), [[1], [1]])
        self.assertEqual(last(*FOUR, anew()), [4])
        self.assertEqual(last(*FOUR, show(0, 1), anew()), [4])
        self.assertEqual(last(*FOUR, show(0, 4), anew()), [4])
        self.assertEqual(run(*FOUR, anew(), anew())[2:], [[4], [4]])
        self.assertEqual(last(*FOUR, show(0, 4), edit(1, 2, b"x", b"y"), anew()), [5])
        self.assertEqual(last(*FOUR, show(0, 4), edit(0, 3), anew()), [1])
        self.assertEqual(last(text(*[b"x"] * 40), anew()), [40])

    def test_all_is_kept_behind_it(self):
        for before in (FOUR, FOUR + (show(0, 2),), FOUR + (show(0, 4), edit(0, 1, b"b"))):
            answered = run(*before, anew(), stale(), show(0, 4), state(4))
            self.assertEqual([part[0] for part in answered[-4:]], [4, 0, 0, 0])

    def test_what_is_kept_fits_behind_an_edit(self):
        answered = run(*FOUR, anew(), edit(0, 1, b"b"), stale(), edit(1, 2, b"c"), stale())
        # The comment is gone from line 1, so line 2 begins otherwise, and line 3 as before.
        self.assertEqual(answered[2:], [[4], [4], [1], [4], [3]])

    def test_what_is_shown_is_the_same(self):
        shown = last(*FOUR, show(0, 4))
        self.assertEqual(last(*FOUR, anew(), show(0, 4)), [0] + shown[1:])
        self.assertEqual(last(*FOUR, show(0, 4), anew(), show(0, 4)), [0] + shown[1:])

    def test_the_text_and_the_rules_stay(self):
        self.assertEqual(run(SMALL_LANGUAGE, text(b"(", b")"), anew(), pair(0, 0), edit(0, 0))[3:], [[1, 0, 1], [2]])


if __name__ == "__main__":
    unittest.main()
