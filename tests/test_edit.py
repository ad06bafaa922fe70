"""Promise 3: edit, and what it refuses."""

import unittest

from helper import PARTLY_KEPT, SMALL_LANGUAGE, assert_refused, edit, last, run, show, state, text

HUGE = 4294967295
# Lines that tell themselves apart by how many bytes they have.
FOUR = (text(b"-", b"--", b"---", b"----"), show(0, 4))


def lengths(*calls):
    """How many lines there are, how many of them were coloured anew, and how long each is."""
    count = last(*calls)[0]
    shown = last(*calls, show(0, count))
    found = []
    place = 1
    while place < len(shown):
        found.append(shown[place])
        place += 1 + 2 * shown[place]
    return count, shown[0], found


class EditAnswered(unittest.TestCase):
    def test_lines_put_in(self):
        self.assertEqual(lengths(*FOUR, edit(0, 0, b"-----", b"")), (6, 2, [5, 0, 1, 2, 3, 4]))
        self.assertEqual(lengths(*FOUR, edit(2, 2, b"-----", b"")), (6, 2, [1, 2, 5, 0, 3, 4]))
        self.assertEqual(lengths(*FOUR, edit(4, 4, b"-----", b"")), (6, 2, [1, 2, 3, 4, 5, 0]))

    def test_lines_taken_out(self):
        self.assertEqual(lengths(*FOUR, edit(0, 1)), (3, 0, [2, 3, 4]))
        self.assertEqual(lengths(*FOUR, edit(1, 3)), (2, 0, [1, 4]))
        self.assertEqual(lengths(*FOUR, edit(2, 4)), (2, 0, [1, 2]))

    def test_lines_exchanged(self):
        self.assertEqual(lengths(*FOUR, edit(0, 1, b"------")), (4, 1, [6, 2, 3, 4]))
        self.assertEqual(lengths(*FOUR, edit(1, 3, b"------")), (3, 1, [1, 6, 4]))
        self.assertEqual(lengths(*FOUR, edit(3, 4, b"------", b"-------")), (5, 2, [1, 2, 3, 6, 7]))
        self.assertEqual(lengths(*FOUR, edit(0, 4, b"", b"-")), (2, 2, [0, 1]))

    def test_nothing_for_nothing(self):
        for place in range(5):
            self.assertEqual(lengths(*FOUR, edit(place, place)), (4, 0, [1, 2, 3, 4]))

    def test_the_first_line_of_all(self):
        self.assertEqual(lengths(edit(0, 1, b"ab", b"c")), (2, 2, [2, 1]))
        self.assertEqual(lengths(edit(1, 1, b"ab", b"c")), (3, 3, [0, 2, 1]))


class EditAndWhatIsKept(unittest.TestCase):
    def test_a_line_put_in_has_nothing_kept_though_it_is_the_same(self):
        self.assertEqual(lengths(*FOUR, edit(1, 2, b"--")), (4, 1, [1, 2, 3, 4]))

    def test_other_lines_keep_what_they_have_and_no_more(self):
        answered = run(text(b"a", b"b", b"c", b"d"), show(0, 2), edit(0, 0, b"e"), show(0, 3), show(0, 5))
        self.assertEqual([part[0] for part in answered], [4, 2, 5, 1, 2])

    def test_what_is_kept_of_a_line_moves_with_it(self):
        answered = run(SMALL_LANGUAGE, text(b"a", b"/*", b"b", b"*/", b"c"), show(0, 5), edit(0, 1), show(0, 4),
                       edit(0, 0, b"x", b"y"), show(0, 6))
        self.assertEqual(answered[4], [0, 1, 2, 4, 1, 1, 6, 1, 2, 4, 1, 1, 1])
        self.assertEqual(answered[6], [2, 1, 1, 1, 1, 1, 1, 1, 2, 4, 1, 1, 6, 1, 2, 4, 1, 1, 1])

    def test_lines_keep_what_they_have_until_they_are_come_to(self):
        # The comment is begun and taken away again while only the first line is looked at.
        answered = run(SMALL_LANGUAGE, text(b"a", b"b", b"c"), show(0, 3), edit(0, 1, b"/*"), show(0, 1),
                       edit(0, 1, b"a"), show(0, 3))
        self.assertEqual([part[0] for part in answered], [3, 3, 3, 3, 1, 3, 1])


class EditRefused(unittest.TestCase):
    def test_to_below_from(self):
        assert_refused(self, -1, edit(1, 0), *PARTLY_KEPT)
        assert_refused(self, -1, edit(3, 2, b"x"), *PARTLY_KEPT)
        assert_refused(self, -1, edit(HUGE, 0, b"x"), *PARTLY_KEPT)
        self.assertEqual(last(*PARTLY_KEPT, edit(2, 2, b"x")), [4])

    def test_to_beyond_the_lines(self):
        assert_refused(self, -1, edit(2, 4, b"x"), *PARTLY_KEPT)
        assert_refused(self, -1, edit(4, 4, b"x"), *PARTLY_KEPT)
        assert_refused(self, -1, edit(0, HUGE, b"x"), *PARTLY_KEPT)
        assert_refused(self, -1, edit(0, 2, b"x"))
        self.assertEqual(last(*PARTLY_KEPT, edit(2, 3, b"x")), [3])
        self.assertEqual(last(*PARTLY_KEPT, edit(3, 3, b"x")), [4])

    def test_a_line_as_in_text(self):
        for fits, beyond in ((b"x" * 60, b"x" * 61), ([9], [10]), ([11], [10]), ([255], [256]), ([0], [HUGE])):
            with self.subTest(beyond=beyond):
                self.assertEqual(last(*PARTLY_KEPT, edit(1, 2, fits)), [3])
                self.assertEqual(last(*PARTLY_KEPT, edit(1, 2, b"x", fits)), [4])
                assert_refused(self, -1, edit(1, 2, beyond), *PARTLY_KEPT)
                assert_refused(self, -1, edit(1, 2, b"x", beyond), *PARTLY_KEPT)

    def test_no_lines_left(self):
        assert_refused(self, -5, edit(0, 3), *PARTLY_KEPT)
        assert_refused(self, -5, edit(0, 1))
        self.assertEqual(last(*PARTLY_KEPT, edit(1, 3)), [1])
        self.assertEqual(last(*PARTLY_KEPT, edit(0, 2)), [1])
        self.assertEqual(last(*PARTLY_KEPT, edit(0, 3, b"")), [1])

    def test_too_many_lines(self):
        self.assertEqual(last(*PARTLY_KEPT, edit(3, 3, *[b"x"] * 37)), [40])
        assert_refused(self, -5, edit(3, 3, *[b"x"] * 38), *PARTLY_KEPT)
        self.assertEqual(last(*PARTLY_KEPT, edit(0, 3, *[b"x"] * 40)), [40])
        assert_refused(self, -5, edit(0, 3, *[b"x"] * 41), *PARTLY_KEPT)
        self.assertEqual(run(text(*[b"x"] * 40), edit(7, 8, b"y"), edit(7, 7, b"y"), edit(0, 1), edit(0, 0, b"y")),
                         [[40], [40], [-5], [39], [40]])

    def test_minus_one_goes_ahead_of_minus_five(self):
        assert_refused(self, -1, edit(0, 3, *[b"x"] * 40, b"\n"), *PARTLY_KEPT)
        assert_refused(self, -1, edit(0, 4), *PARTLY_KEPT)
        assert_refused(self, -1, edit(2, 1, *[b"x"] * 41), *PARTLY_KEPT)

    def test_behind_a_refusal_the_modes_are_the_same(self):
        answered = run(*PARTLY_KEPT, edit(0, 4), state(1), edit(0, 3), state(1))
        self.assertEqual(answered[3:], [[-1], [0, 2, 2, 0], [-5], [0, 2, 2, 0]])


if __name__ == "__main__":
    unittest.main()
