"""The interface: how calls lie in the one list, what is given back, and that nothing else happens."""

import unittest

import colourskept.desk
from helper import (BRACKET_LANGUAGE, SMALL_LANGUAGE, alone, anew, edit, item, lines, mode, pair, rule, rules, run,
                    show, stale, state, text)

SEVERAL = (SMALL_LANGUAGE + text(b"ab", b'c "d') + show(0, 2) + edit(0, 5) + edit(1, 1, b"/*") + state(2)
           + show(3, 3) + text() + show(1, 0))
# Every call, answered and refused.
EVERY = (stale() + SEVERAL + rules() + text(b"x(", b"])") + stale() + pair(0, 1) + pair(1, 1) + pair(0, 0) + pair(2, 0)
         + edit(2, 2, b"(") + pair(2, 0) + edit(0, 3) + alone() + lines(0, 0) + lines(1, 3) + lines(0, 4) + state(4)
         + anew() + stale())
FULL = [b"x" * 60] * 40


class WatchedList(list):
    """A list that tells on whoever changes it."""

    def tell(self, *given):
        raise AssertionError("what was handed in is changed")

    __setitem__ = __delitem__ = __iadd__ = __imul__ = tell
    append = clear = extend = insert = pop = remove = reverse = sort = tell


class Interface(unittest.TestCase):
    def test_calls_written_out_number_by_number(self):
        calls = [0, 12, 1, 0, 1, 7, 0, 0, 1, 1, 0, 1, 97, 98,
                 1, 5, 2, 97, 98, 1, 99,
                 3, 0, 2,
                 2, 0, 1, 0,
                 4, 1,
                 3, 0, 2]
        self.assertEqual(colourskept.desk.answers(calls),
                         [1, 1, 1, 2, 7, 2, 1, 2, 7, 1, 1, 0, 1, 1, 3, 0, 1, 0, 1, -1])

    def test_several_calls_in_order(self):
        self.assertEqual(colourskept.desk.answers(SEVERAL), [
            1, 3,
            1, 2,
            13, 2, 1, 2, 1, 4, 1, 1, 2, 0, 3, 2, 4, 3,
            1, -1,
            1, 3,
            4, 1, 2, 2, 0,
            1, 1,
            1, -1,
            1, -1,
        ])

    def test_every_call_in_order(self):
        first = [1, 1]
        self.assertEqual(colourskept.desk.answers(EVERY), first + colourskept.desk.answers(SEVERAL) + [
            1, -1,
            1, 2,
            1, 2,
            3, 1, 1, 2,
            3, 0, 1, 2,
            1, -6,
            1, -1,
            1, 3,
            1, -7,
            1, -5,
            4, 1, 2, 0, 1,
            0,
            5, 2, 93, 41, 1, 40,
            1, -1,
            1, -1,
            1, 3,
            1, 0,
        ])

    def test_the_calls_5_to_9_written_out_number_by_number(self):
        self.assertEqual(colourskept.desk.answers([5]), [1, 1])
        self.assertEqual(colourskept.desk.answers([6, 0, 0]), [1, -1])
        self.assertEqual(colourskept.desk.answers([7]), [1, 0])
        self.assertEqual(colourskept.desk.answers([8]), [1, 1])
        self.assertEqual(colourskept.desk.answers([9, 0, 1]), [1, 0])
        self.assertEqual(colourskept.desk.answers([9, 0, 0]), [0])
        calls = [0, 19, 0, 0, 2, 1, 0, 7, 1, 0, 0, 1, 40, 40, 1, 0, 8, 1, 1, 0, 0,
                 1, 5, 1, 33, 2, 40, 40,
                 5, 7, 6, 1, 1, 8, 9, 1, 2]
        # The rule that closes has no ranges, so it matches nothing.
        self.assertEqual(colourskept.desk.answers(calls),
                         [1, 1, 1, 2, 1, 2, 7, 2, 1, 0, 7, 1, 1, 7, 1, -7, 1, 2, 3, 2, 40, 40])

    def test_one_call(self):
        self.assertEqual(colourskept.desk.answers([3, 0, 0]), [1, 0])
        self.assertEqual(colourskept.desk.answers([4, 0]), [3, 0, 1, 0])
        self.assertEqual(colourskept.desk.answers([0, 0]), [1, -1])
        self.assertEqual(colourskept.desk.answers([1, 0]), [1, -1])
        self.assertEqual(colourskept.desk.answers([2, 0, 0, 0]), [1, 1])

    def test_most_calls(self):
        self.assertEqual(colourskept.desk.answers(state(0) * 40), [3, 0, 1, 0] * 40)
        four = text(b"a", b"b") + stale() + anew() + lines(0, 1)
        self.assertEqual(colourskept.desk.answers(four * 10), [1, 2, 1, 2, 1, 2, 2, 1, 97] * 10)
        brackets = BRACKET_LANGUAGE + text(b"(", b")") + (pair(0, 0) + alone()) * 19
        self.assertEqual(colourskept.desk.answers(brackets), [1, 3, 1, 2] + [3, 1, 0, 1, 1, 0] * 19)

    def test_what_is_handed_in_is_as_it_was(self):
        calls = list(EVERY)
        colourskept.desk.answers(calls)
        self.assertEqual(calls, EVERY)

    def test_what_is_handed_in_is_not_changed_for_a_while_either(self):
        self.assertEqual(colourskept.desk.answers(WatchedList(EVERY)), colourskept.desk.answers(list(EVERY)))

    def test_the_same_list_twice_gives_the_same(self):
        calls = list(EVERY)
        first = colourskept.desk.answers(calls)
        kept = list(first)
        first.append(7)
        self.assertEqual(colourskept.desk.answers(calls), kept)

    def test_nothing_is_kept_from_one_time_to_the_next(self):
        fresh = stale() + lines(0, 1) + state(0) + show(0, 1) + state(1) + alone()
        before = colourskept.desk.answers(list(fresh))
        colourskept.desk.answers(SMALL_LANGUAGE + text(b"/*", b"x") + show(0, 2))
        colourskept.desk.answers(BRACKET_LANGUAGE + text(b"(", b"x") + alone())
        self.assertEqual(colourskept.desk.answers(list(fresh)), before)
        self.assertEqual(before, [1, 1, 1, 0, 3, 0, 1, 0, 2, 1, 0, 3, 0, 1, 0, 1, 0])

    def test_what_is_given_back_is_a_list_of_whole_numbers(self):
        answered = colourskept.desk.answers(list(EVERY))
        self.assertIs(type(answered), list)
        self.assertEqual({type(number) for number in answered}, {int})

    def test_no_number_but_a_refusal_is_below_0(self):
        for answer in run(list(EVERY)):
            self.assertEqual([number for number in answer if number < 0], answer if answer and answer[0] < 0 else [])

    def test_a_list_of_nearly_the_most_numbers(self):
        # Nothing in it may be gone through by calls within one another.
        calls = (text(*FULL) + show(0, 40)) * 12
        self.assertLess(len(calls), 30001)
        self.assertGreater(len(calls), 29000)
        answered = colourskept.desk.answers(calls)
        self.assertEqual(len(answered), 12 * (2 + 1 + 1 + 40 * 121))

    def test_nearly_the_most_numbers_and_the_most_calls(self):
        edits = (edit(0, 40, *FULL) + stale() + lines(0, 40)) * 11
        calls = text(*FULL) + anew() + show(0, 1) + edits + edit(0, 1, b"y") + stale() + alone() + pair(0, 0)
        self.assertLess(len(calls), 30001)
        self.assertGreater(len(calls), 29000)
        answered = run(calls)
        self.assertEqual(len(answered), 40)
        told = sum([[60, *line] for line in FULL], [])
        self.assertEqual(answered[3:-4], [[40], [40], told] * 11)
        self.assertEqual(answered[-4:], [[40], [40], [0], [-6]])


class AsManyBracketsAsBytes(unittest.TestCase):
    """A text of 40 lines of 60 bytes, each of them a bracket."""

    def test_all_within_one_another(self):
        answered = run(BRACKET_LANGUAGE, text(*[b"(" * 60] * 20, *[b")" * 60] * 20), alone(), pair(0, 0), pair(39, 59),
                       pair(19, 59), pair(20, 0), pair(7, 3), stale(), anew())
        self.assertEqual(answered[2:], [[0], [39, 59, 60], [0, 0, 1], [20, 0, 1], [19, 59, 60], [32, 56, 57],
                                        [0], [40]])

    def test_all_alone(self):
        for sign, number in ((b"(", 1), (b")", 2)):
            answered = run(BRACKET_LANGUAGE, text(*[sign * 60] * 40), alone(), pair(0, 0), pair(39, 59), stale())
            places = [[line, column, number] for line in range(40) for column in range(60)]
            self.assertEqual(answered[2:], [[2400] + sum(places, []), [-7], [-7], [0]])

    def test_one_behind_another(self):
        answered = run(BRACKET_LANGUAGE, text(*[b"()" * 30] * 40), alone(), pair(39, 58), pair(39, 59))
        self.assertEqual(answered[2:], [[0], [39, 59, 60], [39, 58, 59]])

    def test_asked_in_the_most_calls(self):
        asked = [pair(line, 0) for line in range(38)]
        answered = run(BRACKET_LANGUAGE, text(*[b"(" + b"[]" * 29 + b")"] * 40), *asked)
        self.assertEqual(answered[2:], [[line, 59, 60] for line in range(38)])

    def test_each_line_one_bracket_of_all_its_bytes(self):
        opening = rule(item((40, 40), many=1), bracket=7)
        closing = rule(item((41, 41), many=1), bracket=8)
        answered = run(rules(mode(opening, closing)), text(*[b"(" * 60] * 20, *[b")" * 60] * 20),
                       pair(0, 30), pair(39, 59), edit(0, 1), alone())
        self.assertEqual(answered[2:], [[39, 0, 60], [0, 0, 60], [39], [1, 38, 0, 8]])


if __name__ == "__main__":
    unittest.main()
