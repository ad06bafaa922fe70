"""Many calls, drawn anew from fixed seeds, answered as the plain model of helper.py answers them."""

import random
import unittest

import helper

SIGNS = b'ab(")/*\x00\xff'


def drawn_item(draw):
    ranges = []
    for count in range(draw.choice((0, 1, 1, 1, 2, 4))):
        low, high = draw.choice(SIGNS), draw.choice(SIGNS)
        ranges.append((low, low) if draw.random() < 0.6 else (min(low, high), max(low, high)))
    return (draw.randrange(2), int(draw.random() < 0.25), ranges)


def drawn_rule(draw, mode_count):
    does = draw.choice(((0,), (1,), (2, draw.randrange(mode_count)), (3, draw.randrange(mode_count))))
    items = [drawn_item(draw) for count in range(draw.choice((1, 1, 1, 2, 2, 3, 6)))]
    # Few kinds most of the time, so that brackets often pair.
    bracket = draw.choice((0, 0, 1, 1, 1, 2, 2, 2, 3, 4, draw.randrange(9)))
    return (draw.randrange(10), does, bracket, items)


def drawn_rules(draw, mode_count):
    """At most 8; every other time two brackets come first, as rules that are all drawn seldom have pairs."""
    drawn = [drawn_rule(draw, mode_count) for number in range(draw.randrange(9))]
    if draw.random() < 0.5:
        return drawn
    kind = draw.choice((1, 1, 2))
    brackets = [(5, (0,), number, [(int(draw.random() < 0.2), 0, [(sign, sign)])])
                for sign, number in ((ord("("), 2 * kind - 1), (ord(")"), 2 * kind))]
    return (brackets + drawn)[:8]


def drawn_modes(draw):
    count = draw.randrange(1, 7)
    return [(draw.randrange(2), draw.randrange(10), drawn_rules(draw, count)) for mode in range(count)]


def drawn_lines(draw, most):
    return [bytes(draw.choices(SIGNS, k=draw.choice((0, 1, 2, 5, 12, 60)))) for line in range(draw.randrange(most))]


def as_numbers(modes):
    told = []
    for ends, colour, rules in modes:
        made = [helper.rule(*[helper.item(*ranges, many=many, inverse=inverse) for many, inverse, ranges in items],
                            colour=rule_colour, does=does, bracket=bracket)
                for rule_colour, does, bracket, items in rules]
        told.append(helper.mode(*made, ends=ends, colour=colour))
    return helper.rules(*told)


KINDS = ("rules", "text", "edit", "edit", "edit", "show", "show", "state", "stale", "pair", "pair", "pair", "alone",
         "anew", "lines")


def drawn_call(draw, model):
    """Which call, the call as numbers, and what the model answers to it."""
    count = len(model.text_lines)
    begin, to = draw.randrange(count + 1), draw.randrange(count + 2)
    if draw.random() < 0.8:
        begin, to = min(begin, to), max(begin, to)
    kind = draw.choice(KINDS)
    if kind == "rules":
        modes = drawn_modes(draw)
        return kind, as_numbers(modes), model.rules(modes)
    if kind == "text":
        lines = drawn_lines(draw, 12)
        return kind, helper.text(*lines), model.text(lines)
    if kind == "edit":
        lines = drawn_lines(draw, 4)
        to = min(to, begin + 2)
        return kind, helper.edit(begin, to, *lines), model.edit(begin, to, lines)
    given = {"show": (begin, to), "lines": (begin, to), "state": (to,)}.get(kind, ())
    if kind == "pair":
        given = drawn_place(draw, model)
    return kind, getattr(helper, kind)(*given), getattr(model, kind)(*given)


def drawn_place(draw, model):
    """A line and a column, now and then beyond the last one."""
    line = draw.randrange(len(model.text_lines) + (draw.random() < 0.1))
    length = len(model.text_lines[line]["bytes"]) if line < len(model.text_lines) else 3
    return line, draw.randrange(max(1, length + (draw.random() < 0.1)))


def drawn_list(seed, count):
    """So many calls, each which one, as numbers, and answered by the model."""
    draw = random.Random(seed)
    model = helper.Model()
    modes = drawn_modes(draw)
    lines = drawn_lines(draw, 11) + [b"ab"]
    made = [("rules", as_numbers(modes), model.rules(modes)), ("text", helper.text(*lines), model.text(lines))]
    while len(made) < count:
        made.append(drawn_call(draw, model))
    return made


LISTS = [drawn_list(seed, 40) for seed in range(300)]


class AgainstTheModel(unittest.TestCase):
    def test_drawn_calls(self):
        for seed, made in enumerate(LISTS):
            with self.subTest(seed=seed):
                self.assertLess(sum(len(call) for kind, call, answer in made), 30001)
                self.assertEqual(helper.run(*[call for kind, call, answer in made]),
                                 [answer for kind, call, answer in made])

    def test_what_is_drawn_has_every_answer_often(self):
        found = {}
        for made in LISTS:
            for kind, call, answer in made:
                told = answer[0] if answer and answer[0] < 0 else "answered"
                found[kind, told] = found.get((kind, told), 0) + 1
        for kind in sorted(set(KINDS)):
            self.assertGreater(found[kind, "answered"], 100, kind)
        for refusal in (("text", -1), ("edit", -1), ("edit", -5), ("show", -1), ("state", -1), ("lines", -1),
                        ("pair", -1), ("pair", -6), ("pair", -7)):
            self.assertGreater(found[refusal], 20, refusal)


class TheWhole(unittest.TestCase):
    """What the document promises over the whole program, told by the program's own answers."""

    def test_what_is_shown_is_what_colouring_from_the_beginning_gives(self):
        for seed in range(100):
            calls = [call for kind, call, answer in drawn_list(seed, 36)]
            # Nothing put in for nothing tells how many lines there are.
            count = helper.last(*calls, helper.edit(0, 0))[0]
            shown = helper.run(*calls, helper.show(0, count), helper.anew(), helper.show(0, count))
            with self.subTest(seed=seed):
                self.assertEqual(shown[-2], [count])
                self.assertEqual(shown[-3][1:], shown[-1][1:])
                self.assertEqual(shown[-1][0], 0)

    def test_brackets_go_in_pairs_that_do_not_cross(self):
        for seed in range(60):
            draw = random.Random(seed)
            columns = draw.randrange(20, 37)
            signs = bytes(draw.choices(b"(())[]", k=columns))
            calls = [helper.pair(0, column) for column in range(columns)]
            answered = helper.run(helper.BRACKET_LANGUAGE, helper.text(signs), *calls, helper.alone())
            pairs = {column: answer[1] for column, answer in enumerate(answered[2:-1]) if answer != [-7]}
            with self.subTest(signs=signs):
                self.assertEqual(answered[-1][2::3], [column for column in range(columns) if column not in pairs])
                for column, partner in pairs.items():
                    self.assertEqual(pairs[partner], column)
                    self.assertEqual(signs[min(column, partner)] in b"([", True)
                    within = range(min(column, partner) + 1, max(column, partner))
                    self.assertTrue(all(pairs[inner] in within for inner in within if inner in pairs))


if __name__ == "__main__":
    unittest.main()
