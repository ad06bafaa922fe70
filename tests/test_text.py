"""Promise 2: text, and what it refuses."""

import unittest

from helper import PARTLY_KEPT, SMALL_LANGUAGE, assert_refused, edit, last, run, show, state, text

HUGE = 4294967295


class TextAnswered(unittest.TestCase):
    def test_answers_how_many_lines(self):
        self.assertEqual(run(text(b"one"), text(b"one", b"", b"three")), [[1], [3]])

    def test_at_the_beginning_there_is_one_line_without_bytes(self):
        self.assertEqual(run(show(0, 1), show(0, 1), edit(1, 1)), [[1, 0], [0, 0], [1]])

    def test_lines_lie_in_their_order(self):
        self.assertEqual(last(SMALL_LANGUAGE, text(b"", b"ab(", b"c"), show(0, 3)), [3, 0, 2, 2, 1, 3, 5, 1, 1, 1])

    def test_most_lines_are_all_there(self):
        lines = [b"x" * number for number in range(40)]
        shown = last(text(*lines), show(39, 40))
        self.assertEqual(shown[:2], [40, 39])

    def test_most_bytes_are_all_there(self):
        self.assertEqual(last(text(b"x" * 60), show(0, 1))[-2:], [60, 0])


class TextRefused(unittest.TestCase):
    def assert_edge(self, fits, beyond, count=1):
        self.assertEqual(run(fits), [[count]])
        assert_refused(self, -1, beyond, *PARTLY_KEPT)
        assert_refused(self, -1, beyond)

    def test_lines(self):
        self.assert_edge(text(b""), text())
        self.assert_edge(text(*[b"x"] * 40), text(*[b"x"] * 41), count=40)
        assert_refused(self, -1, text(*[b""] * 4000), *PARTLY_KEPT)

    def test_length_of_a_line(self):
        self.assert_edge(text(b"x" * 60), text(b"x" * 61))
        self.assert_edge(text(b"", b"x" * 60), text(b"", b"x" * 61), count=2)

    def test_line_feed(self):
        self.assert_edge(text([9]), text([10]))
        self.assert_edge(text([11]), text([10]))
        self.assert_edge(text(b"ab", b"cd"), text(b"ab", b"c\n"), count=2)

    def test_byte(self):
        self.assert_edge(text([0]), text([256]))
        self.assert_edge(text([255]), text([256]))
        self.assert_edge(text(b"ab", [97, 255]), text(b"ab", [97, HUGE]), count=2)


class TextTakesAwayWhatIsKept(unittest.TestCase):
    def test_all_lines_are_coloured_anew(self):
        same = text(b"a", b"b", b"c")
        answered = run(SMALL_LANGUAGE, same, show(0, 3), same, show(0, 2), show(0, 3), show(0, 3))
        self.assertEqual([part[0] for part in answered], [3, 3, 3, 3, 2, 1, 0])

    def test_the_text_before_is_gone(self):
        answered = run(SMALL_LANGUAGE, text(b"a", b"/*", b"c"), show(0, 3), text(b"d", b"e"), show(0, 2), state(3))
        self.assertEqual(answered[-2:], [[2, 1, 1, 1, 1, 1, 1], [-1]])

    def test_the_rules_stay(self):
        self.assertEqual(last(SMALL_LANGUAGE, text(b"a"), text(b"bc"), show(0, 1)), [1, 1, 2, 1])


if __name__ == "__main__":
    unittest.main()
