"""alone: the brackets without a partner, in order; and that all is kept up behind it."""

import unittest

from helper import (BRACKET_LANGUAGE, SMALL_LANGUAGE, alone, edit, last, mode, one, rule, rules, run, show, stale,
                    text)


def lone(*told):
    """The brackets that are alone in these lines, each (line, column, bracket number)."""
    answered = last(BRACKET_LANGUAGE, text(*told), alone())
    numbers = answered[1:]
    found = list(zip(numbers[0::3], numbers[1::3], numbers[2::3]))
    if len(numbers) != 3 * answered[0]:
        raise ValueError("how many are alone was to be told ahead of them")
    return found


class AloneAnswered(unittest.TestCase):
    def test_none(self):
        self.assertEqual(run(alone()), [[0]])
        self.assertEqual(last(BRACKET_LANGUAGE, text(b"abc", b""), alone()), [0])
        self.assertEqual(last(BRACKET_LANGUAGE, text(b"([begin", b"x", b"end])()"), alone()), [0])
        self.assertEqual(last(text(b"(["), alone()), [0])

    def test_one(self):
        self.assertEqual(last(BRACKET_LANGUAGE, text(b"ab("), alone()), [1, 0, 2, 1])
        self.assertEqual(last(BRACKET_LANGUAGE, text(b"", b"a]"), alone()), [1, 1, 1, 4])

    def test_some_that_open(self):
        self.assertEqual(lone(b"(([", b" begin"), [(0, 0, 1), (0, 1, 1), (0, 2, 3), (1, 1, 5)])

    def test_some_that_close(self):
        self.assertEqual(lone(b")] end", b")"), [(0, 0, 2), (0, 1, 4), (0, 3, 6), (1, 0, 2)])

    def test_both_in_the_order_of_the_text(self):
        # The one that opens is known to be alone only at the end, but stands ahead of the others.
        self.assertEqual(lone(b"[x)", b"() (", b"", b"end]"), [(0, 0, 3), (0, 2, 2), (1, 3, 1), (3, 0, 6), (3, 3, 4)])
        self.assertEqual(lone(b")(", b")("), [(0, 0, 2), (1, 1, 1)])

    def test_one_that_closes_otherwise_changes_nothing(self):
        self.assertEqual(lone(b"(]", b")"), [(0, 1, 4)])
        self.assertEqual(lone(b"([)]"), [(0, 0, 1), (0, 2, 2)])

    def test_where_one_of_several_bytes_begins(self):
        self.assertEqual(lone(b"beginbegin end", b"  endend"), [(1, 5, 6)])
        self.assertEqual(lone(b"beginbegin end"), [(0, 0, 5)])

    def test_those_within_a_mode_without_them_are_not_there(self):
        self.assertEqual(lone(b'")(" [', b'"]', b")"), [(0, 5, 3), (2, 0, 2)])

    def test_a_mode_that_goes_over_lines(self):
        self.assertEqual(lone(b"( /* )", b") ( */", b")"), [(0, 0, 1), (0, 2, 7), (1, 4, 8)])

    def test_every_bracket_number(self):
        made = rules(mode(*[rule(one("abcdefgh"[number - 1]), bracket=number) for number in range(1, 9)]))
        self.assertEqual(last(made, text(b"hgfedcba"), alone()),
                         [8] + sum([[0, column, 8 - column] for column in range(8)], []))

    def test_as_the_text_and_the_rules_are_now(self):
        answered = run(BRACKET_LANGUAGE, text(b"(", b")"), alone(), edit(0, 1, b'"('), alone(), edit(1, 2), alone(),
                       text(b"[", b"("), alone(), SMALL_LANGUAGE, alone())
        self.assertEqual(answered[2:], [[0], [2], [1, 1, 0, 2], [1], [0], [2], [2, 0, 0, 3, 1, 0, 1], [3],
                                        [1, 1, 0, 1]])


class KeptBehindAlone(unittest.TestCase):
    def test_all_is_kept_up(self):
        before = (BRACKET_LANGUAGE, text(b"(", b"a", b")"))
        for asked in (before, before + (show(0, 1),), before + (show(0, 3), edit(1, 2, b"/*"))):
            answered = run(*asked, alone(), stale(), show(0, 3), alone())
            self.assertEqual([answered[-3], answered[-2][0], answered[-1]], [[0], 0, answered[-4]])

    def test_what_is_kept_is_shown_as_ever(self):
        before = (SMALL_LANGUAGE, text(b"(/*", b"a", b"*/)"))
        self.assertEqual(last(*before, alone(), show(0, 3))[1:], last(*before, show(0, 3))[1:])

    def test_without_brackets_all_is_kept_up_too(self):
        self.assertEqual(run(text(b"a", b"b"), alone(), stale()), [[2], [0], [0]])


if __name__ == "__main__":
    unittest.main()
