"""How a line is coloured: which rule matches, what it takes, what it does, and what the line's end does."""

import unittest

from helper import coloured, item, mode, modes_behind, one, rule, rules, spelled

LETTERS = (97, 122)
DIGITS = (48, 57)


class WhichRule(unittest.TestCase):
    def test_the_first_that_matches(self):
        word = rule(item(LETTERS, many=1), colour=1)
        other = rule(*spelled("if"), colour=2)
        self.assertEqual(coloured(rules(mode(word, other)), b"if"), [(2, 1)])
        self.assertEqual(coloured(rules(mode(other, word)), b"if"), [(2, 2)])
        self.assertEqual(coloured(rules(mode(other, word)), b"in"), [(2, 1)])

    def test_not_the_longest(self):
        made = rules(mode(rule(one("a"), colour=1), rule(*spelled("ab"), colour=2)))
        self.assertEqual(coloured(made, b"aba"), [(1, 1), (2, 0), (3, 1)])

    def test_rules_of_the_top_mode_alone(self):
        made = rules(mode(rule(one("+"), colour=1, does=(2, 1)), rule(one("a"), colour=2)),
                     mode(rule(one("b"), colour=3), colour=9))
        self.assertEqual(coloured(made, b"ab+ab+"), [(1, 2), (2, 0), (3, 1), (4, 9), (5, 3), (6, 9)])

    def test_a_byte_that_no_rule_matches(self):
        made = rules(mode(rule(one("a"), colour=1), colour=7))
        self.assertEqual(coloured(made, b"??a?"), [(1, 7), (2, 7), (3, 1), (4, 7)])

    def test_such_a_byte_changes_no_modes(self):
        self.assertEqual(modes_behind(rules(mode(rule(one("a"), does=(2, 1))), mode()), b"??"), [0])

    def test_the_bracket_of_a_rule_is_not_in_what_it_shows(self):
        made = rules(mode(rule(one("("), colour=1, bracket=1), rule(one(")"), colour=2, bracket=8)))
        self.assertEqual(coloured(made, b"()"), [(1, 1), (2, 2)])


class WhatAnItemTakes(unittest.TestCase):
    def test_one_byte(self):
        made = rules(mode(rule(item(LETTERS), colour=1)))
        self.assertEqual(coloured(made, b"ab"), [(1, 1), (2, 1)])

    def test_many_bytes(self):
        made = rules(mode(rule(item(LETTERS, many=1), colour=1)))
        self.assertEqual(coloured(made, b"abc"), [(3, 1)])
        self.assertEqual(coloured(made, b"a1bc"), [(1, 1), (2, 0), (4, 1)])

    def test_many_are_one_at_least(self):
        made = rules(mode(rule(one("a"), item(DIGITS, many=1), colour=1)))
        self.assertEqual(coloured(made, b"a1"), [(2, 1)])
        self.assertEqual(coloured(made, b"ab"), [(1, 0), (2, 0)])
        self.assertEqual(coloured(made, b"a"), [(1, 0)])

    def test_both_ends_of_a_range(self):
        made = rules(mode(rule(item((50, 60)), colour=1)))
        self.assertEqual(coloured(made, [49, 50, 55, 60, 61]), [(1, 0), (2, 1), (3, 1), (4, 1), (5, 0)])
        self.assertEqual(coloured(rules(mode(rule(item((0, 255)), colour=1))), [0, 255]), [(1, 1), (2, 1)])

    def test_any_of_its_ranges(self):
        made = rules(mode(rule(item(LETTERS, DIGITS, (95, 95), many=1), colour=1)))
        self.assertEqual(coloured(made, b"a_1-b"), [(3, 1), (4, 0), (5, 1)])

    def test_not_one_byte(self):
        made = rules(mode(rule(item(LETTERS, DIGITS, inverse=1), colour=1)))
        self.assertEqual(coloured(made, b"a-+1"), [(1, 0), (2, 1), (3, 1), (4, 0)])

    def test_not_many_bytes(self):
        made = rules(mode(rule(item(LETTERS, DIGITS, many=1, inverse=1), colour=1)))
        self.assertEqual(coloured(made, b"a-+1-"), [(1, 0), (3, 1), (4, 0), (5, 1)])

    def test_not_needs_a_byte_too(self):
        made = rules(mode(rule(one("a"), item(LETTERS, inverse=1), colour=1)))
        self.assertEqual(coloured(made, b"a-a"), [(2, 1), (3, 0)])

    def test_no_ranges(self):
        self.assertEqual(coloured(rules(mode(rule(item(), colour=1))), b"ab"), [(1, 0), (2, 0)])
        self.assertEqual(coloured(rules(mode(rule(item(many=1), colour=1))), b"ab"), [(1, 0), (2, 0)])

    def test_no_ranges_and_not(self):
        self.assertEqual(coloured(rules(mode(rule(item(inverse=1), colour=1))), b"ab"), [(1, 1), (2, 1)])
        self.assertEqual(coloured(rules(mode(rule(item(inverse=1, many=1), colour=1))), b"ab"), [(2, 1)])

    def test_items_behind_one_another(self):
        made = rules(mode(rule(one("a"), item(DIGITS, many=1), one("b"), colour=1)))
        self.assertEqual(coloured(made, b"a12ba1"), [(4, 1), (5, 0), (6, 0)])

    def test_many_gives_nothing_back(self):
        made = rules(mode(rule(item(LETTERS, many=1), one("z"), colour=1)))
        self.assertEqual(coloured(made, b"az"), [(1, 0), (2, 0)])
        made = rules(mode(rule(item(LETTERS, many=1), one("-"), colour=1)))
        self.assertEqual(coloured(made, b"az-"), [(3, 1)])

    def test_a_rule_that_fails_late_takes_nothing(self):
        made = rules(mode(rule(*spelled("abc"), colour=1, does=(2, 1)), rule(one("a"), colour=2)), mode(colour=9))
        self.assertEqual(coloured(made, b"abd"), [(1, 2), (2, 0), (3, 0)])

    def test_a_rule_ends_with_the_line(self):
        made = rules(mode(rule(*spelled("ab"), colour=1)))
        self.assertEqual(coloured(made, b"aba"), [(2, 1), (3, 0)])


class WhatARuleDoes(unittest.TestCase):
    """Signs: - takes the top mode away, 0 to 5 put one on top, a to f exchange the top for 0 to 5."""

    @staticmethod
    def every_mode_does(*made):
        return rules(*[mode(*made)] * 6)

    def setUp(self):
        drop = rule(one("-"), does=(1,))
        nothing = rule(one("."), does=(0,))
        self.putting = self.every_mode_does(drop, nothing, *[rule(one(str(n)), does=(2, n)) for n in range(6)])
        self.exchanging = self.every_mode_does(
            drop, rule(one("1"), does=(2, 1)), *[rule(one("abcdef"[n]), does=(3, n)) for n in range(6)])

    def test_nothing(self):
        self.assertEqual(modes_behind(self.putting, b"."), [0])
        self.assertEqual(modes_behind(self.putting, b"12..."), [2, 1, 0])

    def test_the_top_mode_goes(self):
        self.assertEqual(modes_behind(self.putting, b"12-"), [1, 0])
        self.assertEqual(modes_behind(self.putting, b"12--"), [0])

    def test_the_last_one_does_not_go(self):
        self.assertEqual(modes_behind(self.putting, b"-"), [0])
        self.assertEqual(modes_behind(self.putting, b"12---3"), [3, 0])
        self.assertEqual(modes_behind(self.exchanging, b"c-"), [2])

    def test_one_is_put_on_top(self):
        self.assertEqual(modes_behind(self.putting, b"5"), [5, 0])
        self.assertEqual(modes_behind(self.putting, b"0"), [0, 0])
        self.assertEqual(modes_behind(self.putting, b"1234"), [4, 3, 2, 1, 0])

    def test_no_sixth_one(self):
        self.assertEqual(modes_behind(self.putting, b"12345"), [4, 3, 2, 1, 0])
        self.assertEqual(modes_behind(self.putting, b"12345-"), [3, 2, 1, 0])
        self.assertEqual(modes_behind(self.putting, b"12345-5"), [5, 3, 2, 1, 0])

    def test_the_top_one_is_exchanged(self):
        self.assertEqual(modes_behind(self.exchanging, b"1c"), [2, 0])
        self.assertEqual(modes_behind(self.exchanging, b"1a"), [0, 0])

    def test_the_only_one_is_exchanged(self):
        self.assertEqual(modes_behind(self.exchanging, b"d"), [3])
        self.assertEqual(modes_behind(self.exchanging, b"d1"), [1, 3])

    def test_the_fifth_one_is_exchanged_and_goes(self):
        self.assertEqual(modes_behind(self.exchanging, b"1111f"), [5, 1, 1, 1, 0])
        self.assertEqual(modes_behind(self.exchanging, b"1111-"), [1, 1, 1, 0])

    def test_the_token_has_its_colour_whatever_it_does(self):
        made = rules(mode(rule(one("+"), colour=1, does=(2, 1)), rule(one("="), colour=2, does=(3, 1)), colour=8),
                     mode(rule(one("-"), colour=3, does=(1,)), colour=9))
        self.assertEqual(coloured(made, b"?+?-?=?-?"),
                         [(1, 8), (2, 1), (3, 9), (4, 3), (5, 8), (6, 2), (7, 9), (8, 3), (9, 9)])

    def test_what_is_done_at_the_limit_still_makes_a_token(self):
        made = rules(mode(rule(one("-"), colour=3, does=(1,)), rule(one("+"), colour=1, does=(2, 0)), colour=8))
        self.assertEqual(coloured(made, b"-+++++"), [(1, 3), (2, 1), (3, 1), (4, 1), (5, 1), (6, 1)])


class TheEndOfALine(unittest.TestCase):
    """Modes 1 and 2 end with the line, modes 0 and 3 don't."""

    def setUp(self):
        digits = [rule(one(str(number)), does=(2, number)) for number in range(4)]
        self.modes = rules(mode(*digits), mode(*digits, ends=1), mode(*digits, ends=1), mode(*digits))

    def test_one_that_ends(self):
        self.assertEqual(modes_behind(self.modes, b"1"), [0])

    def test_one_that_does_not(self):
        self.assertEqual(modes_behind(self.modes, b"3"), [3, 0])

    def test_several_in_a_row(self):
        self.assertEqual(modes_behind(self.modes, b"1212"), [0])
        self.assertEqual(modes_behind(self.modes, b"3121"), [3, 0])

    def test_only_those_on_top(self):
        self.assertEqual(modes_behind(self.modes, b"1231"), [3, 2, 1, 0])
        self.assertEqual(modes_behind(self.modes, b"13"), [3, 1, 0])

    def test_each_line_has_its_end(self):
        self.assertEqual(modes_behind(self.modes, b"1", b"", b"3", b"2", b"1"), [3, 0])

    def test_the_last_one_stays(self):
        ending = rules(mode(rule(one("1"), does=(2, 1)), rule(one("="), does=(3, 1)), ends=1), mode(ends=1))
        self.assertEqual(modes_behind(ending, b""), [0])
        self.assertEqual(modes_behind(ending, b"1"), [0])
        self.assertEqual(modes_behind(ending, b"="), [1])
        self.assertEqual(modes_behind(ending, b"=", b"x"), [1])

    def test_one_that_ends_goes_only_at_the_end(self):
        made = rules(mode(rule(one("+"), colour=1, does=(2, 1))), mode(ends=1, colour=9))
        self.assertEqual(coloured(made, b"+ab"), [(1, 1), (2, 9), (3, 9)])


if __name__ == "__main__":
    unittest.main()
