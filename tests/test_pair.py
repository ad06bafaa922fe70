"""Promise 4, of pair: a bracket's partner, what is refused, and what is kept behind each answer."""

import unittest

from helper import (BRACKET_LANGUAGE, PARTLY_KEPT, alone, assert_refused, edit, item, last, lines, mode, one, pair,
                    rule, rules, run, show, stale, state, text)

HUGE = 4294967295


def partners(told, *places):
    """What pair answers at each place of these lines; a place is a column of line 0, or a line and a column."""
    asked = [pair(*place) if isinstance(place, tuple) else pair(0, place) for place in places]
    return run(BRACKET_LANGUAGE, text(*told), *asked)[2:]


class PairAnswered(unittest.TestCase):
    def test_behind_it_and_ahead_of_it_in_the_same_line(self):
        self.assertEqual(partners([b"a(b)c"], 1, 3), [[0, 3, 4], [0, 1, 2]])

    def test_in_another_line(self):
        self.assertEqual(partners([b"x(", b"", b"y", b" )"], (0, 1), (3, 1)), [[3, 1, 2], [0, 1, 2]])

    def test_the_same_column_in_two_lines(self):
        self.assertEqual(partners([b"(", b")("], (0, 0), (1, 0), (1, 1)), [[1, 0, 1], [0, 0, 1], [-7]])
        self.assertEqual(partners([b"[(", b" )", b" ]"], (0, 0), (0, 1), (1, 1), (2, 1)),
                         [[2, 1, 2], [1, 1, 2], [0, 1, 2], [0, 0, 1]])

    def test_any_column_of_a_bracket_of_several_bytes(self):
        asked = partners([b" begin end "], 0, 1, 2, 5, 6, 7, 8, 9, 10)
        opening, closing = [0, 1, 6], [0, 7, 10]
        self.assertEqual(asked, [[-6], closing, closing, closing, [-6], opening, opening, opening, [-6]])

    def test_brackets_that_touch(self):
        asked = partners([b"begin()endend"], 4, 5, 6, 7, 9, 10)
        self.assertEqual(asked, [[0, 7, 10], [0, 6, 7], [0, 5, 6], [0, 0, 5], [0, 0, 5], [-7]])

    def test_one_of_many_bytes(self):
        made = rules(mode(rule(item((40, 40), many=1), bracket=1), rule(item((41, 41), many=1), bracket=2)))
        answered = run(made, text(b"((( x ))"), pair(0, 0), pair(0, 2), pair(0, 6), pair(0, 7))
        self.assertEqual(answered[2:], [[0, 6, 8], [0, 6, 8], [0, 0, 3], [0, 0, 3]])

    def test_pairs_within_pairs(self):
        self.assertEqual(partners([b"([()])"], 0, 1, 2, 3, 4, 5),
                         [[0, 5, 6], [0, 4, 5], [0, 3, 4], [0, 2, 3], [0, 1, 2], [0, 0, 1]])

    def test_pairs_behind_pairs(self):
        self.assertEqual(partners([b"()[]()"], 0, 1, 2, 3, 4, 5),
                         [[0, 1, 2], [0, 0, 1], [0, 3, 4], [0, 2, 3], [0, 5, 6], [0, 4, 5]])

    def test_every_kind(self):
        kinds = (1, 2, 3, 4)
        made = rules(mode(*[rule(one("abcd"[kind - 1]), bracket=2 * kind - 1) for kind in kinds],
                          *[rule(one("ABCD"[kind - 1]), bracket=2 * kind) for kind in kinds]))
        answered = run(made, text(b"abcdDCBA"), *[pair(0, column) for column in range(8)])
        self.assertEqual(answered[2:], [[0, 7 - column, 8 - column] for column in range(8)])

    def test_kinds_that_do_not_pair(self):
        self.assertEqual(partners([b"(]"], 0, 1), [[-7], [-7]])
        # The closing one of kind 1 and the opening one of kind 2 have numbers next to one another.
        self.assertEqual(partners([b")["], 0, 1), [[-7], [-7]])
        self.assertEqual(partners([b"[)"], 0, 1), [[-7], [-7]])

    def test_one_that_closes_and_is_alone_between_two_that_pair(self):
        self.assertEqual(partners([b"( ] )"], 0, 2, 4), [[0, 4, 5], [-7], [0, 0, 1]])
        self.assertEqual(partners([b"[(]))]"], 0, 1, 2, 3, 4, 5),
                         [[0, 5, 6], [0, 3, 4], [-7], [0, 1, 2], [-7], [0, 0, 1]])

    def test_pairs_do_not_cross(self):
        self.assertEqual(partners([b"([)]"], 0, 1, 2, 3), [[-7], [0, 3, 4], [-7], [0, 1, 2]])

    def test_one_that_opens_and_stays_so_keeps_those_ahead_of_it_from_pairing(self):
        self.assertEqual(partners([b"(()"], 0, 1, 2), [[-7], [0, 2, 3], [0, 1, 2]])
        self.assertEqual(partners([b"([ )"], 0, 1, 3), [[-7], [-7], [-7]])

    def test_not_within_a_mode_whose_rules_have_none(self):
        self.assertEqual(partners([b'(")")'], 0, 1, 2, 3, 4), [[0, 4, 5], [-6], [-6], [-6], [0, 0, 1]])
        self.assertEqual(partners([b'( ")', b")"], (0, 0), (0, 3), (1, 0)), [[1, 0, 1], [-6], [0, 0, 1]])

    def test_a_token_that_changes_modes_may_have_a_bracket(self):
        asked = partners([b"/* )", b"( */)"], (0, 0), (0, 1), (0, 3), (1, 0), (1, 2), (1, 4))
        self.assertEqual(asked, [[-7], [-7], [-6], [1, 4, 5], [-7], [1, 0, 1]])
        self.assertEqual(partners([b"/* )", b"] */"], (0, 1), (1, 3)), [[1, 2, 4], [0, 0, 2]])

    def test_as_the_text_is_now(self):
        answered = run(BRACKET_LANGUAGE, text(b"(", b")", b")"), pair(0, 0), edit(1, 2, b'")'), pair(0, 0),
                       edit(0, 0, b"x"), pair(3, 0), edit(0, 2, b""), pair(2, 0))
        self.assertEqual(answered[2:], [[1, 0, 1], [3], [2, 0, 1], [4], [1, 0, 1], [3], [-7]])

    def test_as_the_rules_are_now(self):
        answered = run(BRACKET_LANGUAGE, text(b"()"), pair(0, 0), rules(mode(rule(one("("), bracket=1))), pair(0, 0),
                       pair(0, 1), rules(mode()), pair(0, 0))
        self.assertEqual(answered[2:], [[0, 1, 2], [1], [-7], [-6], [1], [-6]])


class PairRefused(unittest.TestCase):
    def test_no_such_line(self):
        self.assertEqual(partners([b"()", b"()"], (1, 0), (2, 0), (HUGE, 0)), [[1, 1, 2], [-1], [-1]])
        assert_refused(self, -1, pair(3, 0), *PARTLY_KEPT)
        assert_refused(self, -1, pair(HUGE, HUGE), *PARTLY_KEPT)
        assert_refused(self, -1, pair(1, 0))

    def test_no_byte_at_that_column(self):
        self.assertEqual(partners([b"()"], 1, 2, 3, HUGE), [[0, 0, 1], [-1], [-1], [-1]])
        assert_refused(self, -1, pair(1, 8), *PARTLY_KEPT)
        assert_refused(self, -1, pair(1, HUGE), *PARTLY_KEPT)

    def test_a_line_without_bytes(self):
        self.assertEqual(partners([b"(", b"", b")"], (1, 0), (1, 1)), [[-1], [-1]])
        assert_refused(self, -1, pair(0, 0))

    def test_a_byte_in_another_line_is_none_at_that_column(self):
        self.assertEqual(partners([b"(", b"()"], (0, 1), (1, 1)), [[-1], [1, 0, 1]])

    def test_no_bracket_there(self):
        self.assertEqual(partners([b"a(b)"], 0, 2), [[-6], [-6]])
        self.assertEqual(partners([b"begi n ende"], 0, 3, 10), [[-6], [-6], [-6]])
        self.assertEqual(run(text(b"()"), pair(0, 0), pair(0, 1)), [[1], [-6], [-6]])

    def test_one_that_opens_and_is_alone(self):
        self.assertEqual(partners([b"(", b"x"], (0, 0)), [[-7]])
        self.assertEqual(partners([b" begin"], 1, 5), [[-7], [-7]])

    def test_one_that_closes_and_is_alone(self):
        self.assertEqual(partners([b"x", b")"], (1, 0)), [[-7]])
        self.assertEqual(partners([b" end"], 1, 3), [[-7], [-7]])


class KeptBehindPair(unittest.TestCase):
    LINES = (b"( x )", b"[", b"y")

    def kept_behind(self, *before):
        """How many lines would be coloured anew, and how many then are."""
        answered = run(*before, stale(), show(0, 3))
        return answered[len(before) - 1], answered[-2], answered[-1][0]

    def test_all_behind_a_partner(self):
        before = (BRACKET_LANGUAGE, text(*self.LINES))
        self.assertEqual(self.kept_behind(*before, pair(0, 0)), ([0, 4, 5], [0], 0))
        self.assertEqual(self.kept_behind(*before, show(0, 2), edit(0, 1, b"( )"), pair(0, 2)), ([0, 0, 1], [0], 0))

    def test_all_where_no_bracket_is_there_and_where_it_is_alone(self):
        before = (BRACKET_LANGUAGE, text(*self.LINES))
        self.assertEqual(self.kept_behind(*before, pair(0, 2)), ([-6], [0], 0))
        self.assertEqual(self.kept_behind(*before, pair(1, 0)), ([-7], [0], 0))

    def test_no_more_behind_minus_one(self):
        before = (BRACKET_LANGUAGE, text(*self.LINES))
        self.assertEqual(self.kept_behind(*before, pair(3, 0)), ([-1], [3], 3))
        self.assertEqual(self.kept_behind(*before, pair(2, 1)), ([-1], [3], 3))
        self.assertEqual(self.kept_behind(*before, show(0, 1), pair(2, 1)), ([-1], [2], 2))

    def test_what_is_kept_is_shown_as_ever(self):
        before = (BRACKET_LANGUAGE, text(*self.LINES))
        shown = last(*before, show(0, 3))
        for asked in (pair(0, 0), pair(0, 2), pair(1, 0)):
            self.assertEqual(last(*before, asked, show(0, 3))[1:], shown[1:])

    def test_all_else_is_as_it_was_behind_minus_six_and_minus_seven(self):
        before = (BRACKET_LANGUAGE, text(*self.LINES), show(0, 3))
        probes = (lines(0, 3), stale(), state(3), alone(), show(0, 3), edit(0, 0, b"/*"), show(0, 4), alone())
        unasked = run(*before, *probes)
        for asked, number in ((pair(0, 2), -6), (pair(1, 0), -7)):
            answered = run(*before, asked, *probes)
            self.assertEqual(answered[3], [number])
            self.assertEqual(answered[:3] + answered[4:], unasked)


if __name__ == "__main__":
    unittest.main()
