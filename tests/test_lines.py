"""Promise 4, of lines: their bytes, what is refused, and that nothing is kept up by it."""

import unittest

from colourskept.desk import answers
from helper import PARTLY_KEPT, SMALL_LANGUAGE, assert_refused, edit, last, lines, rules, mode, run, show, stale, text

HUGE = 4294967295
THREE = (text(b"ab", b"", b"c"),)


class LinesAnswered(unittest.TestCase):
    def test_all(self):
        self.assertEqual(last(*THREE, lines(0, 3)), [2, 97, 98, 0, 1, 99])

    def test_some(self):
        self.assertEqual(last(*THREE, lines(0, 1)), [2, 97, 98])
        self.assertEqual(last(*THREE, lines(1, 2)), [0])
        self.assertEqual(last(*THREE, lines(1, 3)), [0, 1, 99])
        self.assertEqual(last(*THREE, lines(2, 3)), [1, 99])

    def test_none(self):
        for place in range(4):
            self.assertEqual(last(*THREE, lines(place, place)), [])

    def test_none_is_told_as_how_many_numbers_are_answered(self):
        self.assertEqual(answers([9, 0, 0]), [0])
        self.assertEqual(answers([9, 1, 1, 9, 0, 1, 9, 0, 0, 5]), [0, 1, 0, 0, 1, 1])

    def test_at_the_beginning(self):
        self.assertEqual(run(lines(0, 1)), [[0]])

    def test_bytes_at_their_edges(self):
        self.assertEqual(last(text([0, 255, 9, 11]), lines(0, 1)), [4, 0, 255, 9, 11])

    def test_the_most(self):
        full = [bytes([40 + number]) * 60 for number in range(40)]
        self.assertEqual(last(text(*full), lines(0, 40)), sum([[60, *line] for line in full], []))

    def test_as_the_text_is_now(self):
        answered = run(*THREE, edit(1, 2, b"x", b"yz"), lines(0, 4), edit(0, 3), lines(0, 1), text(b"q"), lines(0, 1))
        self.assertEqual(answered[1:], [[4], [2, 97, 98, 1, 120, 2, 121, 122, 1, 99], [1], [1, 99], [1], [1, 113]])

    def test_whatever_the_rules_are(self):
        self.assertEqual(last(*THREE, SMALL_LANGUAGE, show(0, 3), rules(mode()), lines(0, 3)),
                         last(*THREE, lines(0, 3)))


class LinesRefused(unittest.TestCase):
    def test_to_below_from(self):
        assert_refused(self, -1, lines(1, 0), *PARTLY_KEPT)
        assert_refused(self, -1, lines(3, 2), *PARTLY_KEPT)
        assert_refused(self, -1, lines(HUGE, 3), *PARTLY_KEPT)
        assert_refused(self, -1, lines(1, 0))

    def test_to_beyond_the_lines(self):
        assert_refused(self, -1, lines(0, 4), *PARTLY_KEPT)
        assert_refused(self, -1, lines(4, 4), *PARTLY_KEPT)
        assert_refused(self, -1, lines(0, HUGE), *PARTLY_KEPT)
        assert_refused(self, -1, lines(0, 2))
        self.assertEqual(last(*PARTLY_KEPT, lines(3, 3)), [])


class NothingIsKeptUp(unittest.TestCase):
    def test_nothing_is_kept_up_and_nothing_is_lost(self):
        for before, count in ((THREE, 3), (THREE + (show(0, 2),), 1), (THREE + (show(0, 3),), 0)):
            answered = run(*before, lines(0, 3), stale(), show(0, 3))
            self.assertEqual([answered[-2], answered[-1][0]], [[count], count])


if __name__ == "__main__":
    unittest.main()
