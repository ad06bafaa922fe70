"""The interface: how calls lie in the one list, what is given back, and that nothing else happens."""

import unittest

import colourskept.desk
from helper import SMALL_LANGUAGE, edit, show, state, text

SEVERAL = (SMALL_LANGUAGE + text(b"ab", b'c "d') + show(0, 2) + edit(0, 5) + edit(1, 1, b"/*") + state(2)
           + show(3, 3) + text() + show(1, 0))


class WatchedList(list):
    """A list that tells on whoever changes it."""

    def tell(self, *given):
        raise AssertionError("what was handed in is changed")

    __setitem__ = __delitem__ = __iadd__ = __imul__ = tell
    append = clear = extend = insert = pop = remove = reverse = sort = tell


class Interface(unittest.TestCase):
    def test_calls_written_out_number_by_number(self):
        calls = [0, 12, 1, 0, 1, 7, 0, 0, 1, 1, 0, 1, 97, 98,
                 1, 5, 2, 97, 98, 1, 99,
                 3, 0, 2,
                 2, 0, 1, 0,
                 4, 1,
                 3, 0, 2]
        self.assertEqual(colourskept.desk.answers(calls),
                         [1, 1, 1, 2, 7, 2, 1, 2, 7, 1, 1, 0, 1, 1, 3, 0, 1, 0, 1, -1])

    def test_several_calls_in_order(self):
        self.assertEqual(colourskept.desk.answers(SEVERAL), [
            1, 3,
            1, 2,
            13, 2, 1, 2, 1, 4, 1, 1, 2, 0, 3, 2, 4, 3,
            1, -1,
            1, 3,
            4, 1, 2, 2, 0,
            1, 1,
            1, -1,
            1, -1,
        ])

    def test_one_call(self):
        self.assertEqual(colourskept.desk.answers([3, 0, 0]), [1, 0])
        self.assertEqual(colourskept.desk.answers([4, 0]), [3, 0, 1, 0])
        self.assertEqual(colourskept.desk.answers([0, 0]), [1, -1])
        self.assertEqual(colourskept.desk.answers([1, 0]), [1, -1])
        self.assertEqual(colourskept.desk.answers([2, 0, 0, 0]), [1, 1])

    def test_most_calls(self):
        self.assertEqual(colourskept.desk.answers(state(0) * 40), [3, 0, 1, 0] * 40)

    def test_what_is_handed_in_is_as_it_was(self):
        calls = list(SEVERAL)
        colourskept.desk.answers(calls)
        self.assertEqual(calls, SEVERAL)

    def test_what_is_handed_in_is_not_changed_for_a_while_either(self):
        self.assertEqual(colourskept.desk.answers(WatchedList(SEVERAL)), colourskept.desk.answers(list(SEVERAL)))

    def test_the_same_list_twice_gives_the_same(self):
        calls = list(SEVERAL)
        first = colourskept.desk.answers(calls)
        kept = list(first)
        first.append(7)
        self.assertEqual(colourskept.desk.answers(calls), kept)

    def test_nothing_is_kept_from_one_time_to_the_next(self):
        fresh = state(0) + show(0, 1) + state(1)
        before = colourskept.desk.answers(list(fresh))
        colourskept.desk.answers(SMALL_LANGUAGE + text(b"/*", b"x") + show(0, 2))
        self.assertEqual(colourskept.desk.answers(list(fresh)), before)
        self.assertEqual(before, [3, 0, 1, 0, 2, 1, 0, 3, 0, 1, 0])

    def test_what_is_given_back_is_a_list_of_whole_numbers(self):
        answered = colourskept.desk.answers(list(SEVERAL))
        self.assertIs(type(answered), list)
        self.assertEqual({type(number) for number in answered}, {int})

    def test_a_list_of_the_most_numbers(self):
        # Nothing in it may be gone through by calls within one another.
        full = text(*[b"x" * 60] * 40)
        calls = (full + show(0, 40)) * 12
        self.assertLess(len(calls), 30001)
        answered = colourskept.desk.answers(calls)
        self.assertEqual(len(answered), 12 * (2 + 1 + 1 + 40 * 121))


if __name__ == "__main__":
    unittest.main()
