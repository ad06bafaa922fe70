"""Promise 1: rules, and what it refuses."""

import unittest

from helper import (LETTERS, PARTLY_KEPT, SMALL_LANGUAGE, assert_refused, edit, item, last, mode, one, rule,
                    rules, run, show, state, text)

HUGE = 4294967295
ANY = item(inverse=1)


class RulesAnswered(unittest.TestCase):
    def test_answers_how_many_modes(self):
        self.assertEqual(run(SMALL_LANGUAGE), [[3]])
        self.assertEqual(run(rules(mode())), [[1]])
        self.assertEqual(run(rules(mode(rule(ANY)), mode(ends=1))), [[2]])

    def test_modes_at_the_edge_are_all_there(self):
        modes = [mode(rule(ANY, does=(3, (number + 1) % 6)), colour=number) for number in range(6)]
        answered = run(rules(*modes), text(b"x" * 5), state(1), text(b"x" * 6), state(1))
        self.assertEqual(answered, [[6], [1], [1, 1, 5], [1], [1, 1, 0]])

    def test_rules_at_the_edge_are_all_there(self):
        made = [rule(one(sign), colour=number + 1) for number, sign in enumerate("abcdefgh")]
        answered = last(rules(mode(*made)), text(b"hgfedcba"), show(0, 1))
        self.assertEqual(answered, [1, 8, 1, 8, 2, 7, 3, 6, 4, 5, 5, 4, 6, 3, 7, 2, 8, 1])

    def test_items_at_the_edge_are_all_there(self):
        made = rule(*[one(sign) for sign in "abcdef"], colour=7)
        self.assertEqual(last(rules(mode(made)), text(b"abcdef"), show(0, 1)), [1, 1, 6, 7])
        self.assertEqual(last(rules(mode(made)), text(b"abcdeg"), show(0, 1))[1], 6)

    def test_ranges_at_the_edge_are_all_there(self):
        made = rule(item((97, 97), (99, 99), (101, 101), (103, 255), many=1), colour=7)
        self.assertEqual(last(rules(mode(made)), text(b"aceg\xff"), show(0, 1)), [1, 1, 5, 7])

    def test_a_mode_that_comes_later_may_be_named(self):
        answered = run(rules(mode(rule(ANY, does=(2, 2))), mode(), mode(colour=9)), text(b"xy"), show(0, 1), state(1))
        self.assertEqual(answered, [[3], [1], [1, 2, 1, 1, 2, 9], [0, 2, 2, 0]])


class RulesRefused(unittest.TestCase):
    def assert_edge(self, fits, beyond, count=1):
        self.assertEqual(run(fits), [[count]])
        assert_refused(self, -1, beyond, *PARTLY_KEPT)
        assert_refused(self, -1, beyond)

    def test_modes(self):
        self.assert_edge(rules(mode()), rules())
        self.assert_edge(rules(*[mode()] * 6), rules(*[mode()] * 7), count=6)
        assert_refused(self, -1, rules(*[mode()] * 600), *PARTLY_KEPT)

    def test_colour_of_a_mode(self):
        self.assert_edge(rules(mode(colour=9)), rules(mode(colour=10)))
        self.assert_edge(rules(mode(), mode(colour=9)), rules(mode(), mode(colour=10)), count=2)
        assert_refused(self, -1, rules(mode(colour=HUGE)), *PARTLY_KEPT)

    def test_colour_of_a_rule(self):
        self.assert_edge(rules(mode(rule(ANY, colour=9))), rules(mode(rule(ANY, colour=10))))
        self.assert_edge(rules(mode(rule(ANY), rule(ANY, colour=9))), rules(mode(rule(ANY), rule(ANY, colour=10))))
        assert_refused(self, -1, rules(mode(rule(ANY, colour=HUGE))), *PARTLY_KEPT)

    def test_rules_in_a_mode(self):
        self.assert_edge(rules(mode()), rules(mode(*[rule(ANY)] * 9)))
        self.assert_edge(rules(mode(*[rule(ANY)] * 8)), rules(mode(*[rule(ANY)] * 9)))
        self.assert_edge(rules(mode(), mode(*[rule(ANY)] * 8)), rules(mode(), mode(*[rule(ANY)] * 9)), count=2)

    def test_bracket(self):
        self.assert_edge(rules(mode(rule(ANY, bracket=8))), rules(mode(rule(ANY, bracket=9))))
        assert_refused(self, -1, rules(mode(rule(ANY, bracket=HUGE))), *PARTLY_KEPT)

    def test_mode_named(self):
        for does in (2, 3):
            with self.subTest(does=does):
                self.assert_edge(rules(mode(rule(ANY, does=(does, 0)))), rules(mode(rule(ANY, does=(does, 1)))))
                self.assert_edge(rules(mode(rule(ANY, does=(does, 2))), mode(), mode()),
                                 rules(mode(rule(ANY, does=(does, 3))), mode(), mode()), count=3)
                self.assert_edge(rules(*[mode()] * 5, mode(rule(ANY, does=(does, 5)))),
                                 rules(*[mode()] * 5, mode(rule(ANY, does=(does, 6)))), count=6)
                assert_refused(self, -1, rules(mode(rule(ANY, does=(does, HUGE)))), *PARTLY_KEPT)

    def test_modes_named_are_those_of_the_new_rules(self):
        # Three modes were there before; now there are two.
        assert_refused(self, -1, rules(mode(rule(ANY, does=(2, 2))), mode()), *PARTLY_KEPT)

    def test_items(self):
        self.assert_edge(rules(mode(rule(ANY))), rules(mode(rule())))
        self.assert_edge(rules(mode(rule(*[ANY] * 6))), rules(mode(rule(*[ANY] * 7))))
        self.assert_edge(rules(mode(rule(ANY), rule(ANY))), rules(mode(rule(ANY), rule())))

    def test_ranges(self):
        self.assert_edge(rules(mode(rule(item()))), rules(mode(rule(item(*[LETTERS] * 5)))))
        self.assert_edge(rules(mode(rule(item(*[LETTERS] * 4)))), rules(mode(rule(item(*[LETTERS] * 5)))))
        self.assert_edge(rules(mode(rule(ANY, item(*[LETTERS] * 4)))), rules(mode(rule(ANY, item(*[LETTERS] * 5)))))

    def test_range_upside_down(self):
        self.assert_edge(rules(mode(rule(item((7, 7))))), rules(mode(rule(item((7, 6))))))
        self.assert_edge(rules(mode(rule(item((0, 0))))), rules(mode(rule(item((1, 0))))))
        self.assert_edge(rules(mode(rule(item(LETTERS, (7, 7))))), rules(mode(rule(item(LETTERS, (7, 6))))))

    def test_range_beyond_the_bytes(self):
        self.assert_edge(rules(mode(rule(item((0, 255))))), rules(mode(rule(item((0, 256))))))
        self.assert_edge(rules(mode(rule(item((255, 255))))), rules(mode(rule(item((256, 256))))))
        assert_refused(self, -1, rules(mode(rule(item((0, HUGE))))), *PARTLY_KEPT)

    def test_a_byte_that_no_line_can_have_may_be_in_a_range(self):
        self.assertEqual(run(rules(mode(rule(item((10, 10)))))), [[1]])


class RulesTakeAwayWhatIsKept(unittest.TestCase):
    def test_all_lines_are_coloured_anew(self):
        answered = run(SMALL_LANGUAGE, text(b"a", b"b", b"c"), show(0, 3), SMALL_LANGUAGE, show(0, 3), show(0, 3))
        self.assertEqual([part[0] for part in answered], [3, 3, 3, 3, 3, 0])

    def test_lines_beyond_those_shown_lose_it_too(self):
        answered = run(text(b"a", b"b", b"c"), show(0, 3), rules(mode(colour=8)), show(0, 1), show(1, 3))
        self.assertEqual(answered[-2:], [[1, 1, 1, 8], [2, 1, 1, 8, 1, 1, 8]])

    def test_the_text_stays(self):
        answered = run(text(b"ab", b"c"), rules(mode(colour=5)), show(0, 2), edit(2, 2))
        self.assertEqual(answered[2:], [[2, 2, 1, 5, 2, 5, 1, 1, 5], [2]])

    def test_the_rules_before_are_gone(self):
        self.assertEqual(last(SMALL_LANGUAGE, text(b"ab"), rules(mode(colour=5)), show(0, 1)), [1, 2, 1, 5, 2, 5])


if __name__ == "__main__":
    unittest.main()
