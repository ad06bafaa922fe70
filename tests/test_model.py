"""Many calls, drawn anew from fixed seeds, answered as the plain model of helper.py answers them."""

import random
import unittest

import helper

SIGNS = b'ab(")/*\x00\xff'


def drawn_item(draw):
    ranges = []
    for count in range(draw.choice((0, 1, 1, 1, 2, 4))):
        low, high = draw.choice(SIGNS), draw.choice(SIGNS)
        ranges.append((low, low) if draw.random() < 0.6 else (min(low, high), max(low, high)))
    return (draw.randrange(2), int(draw.random() < 0.25), ranges)


def drawn_rule(draw, mode_count):
    does = draw.choice(((0,), (1,), (2, draw.randrange(mode_count)), (3, draw.randrange(mode_count))))
    items = [drawn_item(draw) for count in range(draw.choice((1, 1, 1, 2, 2, 3, 6)))]
    return (draw.randrange(10), does, draw.randrange(9), items)


def drawn_modes(draw):
    count = draw.randrange(1, 7)
    return [(draw.randrange(2), draw.randrange(10), [drawn_rule(draw, count) for number in range(draw.randrange(9))])
            for mode in range(count)]


def drawn_lines(draw, most):
    return [bytes(draw.choices(SIGNS, k=draw.choice((0, 1, 2, 5, 12, 60)))) for line in range(draw.randrange(most))]


def as_numbers(modes):
    told = []
    for ends, colour, rules in modes:
        made = [helper.rule(*[helper.item(*ranges, many=many, inverse=inverse) for many, inverse, ranges in items],
                            colour=rule_colour, does=does, bracket=bracket)
                for rule_colour, does, bracket, items in rules]
        told.append(helper.mode(*made, ends=ends, colour=colour))
    return helper.rules(*told)


def drawn_call(draw, model):
    """A call as numbers, and what the model answers to it."""
    count = len(model.lines)
    begin, to = draw.randrange(count + 1), draw.randrange(count + 2)
    if draw.random() < 0.8:
        begin, to = min(begin, to), max(begin, to)
    kind = draw.choice(("rules", "text", "edit", "edit", "edit", "show", "show", "show", "state", "state"))
    if kind == "rules":
        modes = drawn_modes(draw)
        return as_numbers(modes), model.rules(modes)
    if kind == "text":
        lines = drawn_lines(draw, 12)
        return helper.text(*lines), model.text(lines)
    if kind == "edit":
        lines = drawn_lines(draw, 4)
        to = min(to, begin + 2)
        return helper.edit(begin, to, *lines), model.edit(begin, to, lines)
    if kind == "show":
        return helper.show(begin, to), model.show(begin, to)
    return helper.state(to), model.state(to)


class AgainstTheModel(unittest.TestCase):
    def test_drawn_calls(self):
        for seed in range(300):
            draw = random.Random(seed)
            model = helper.Model()
            modes = drawn_modes(draw)
            lines = drawn_lines(draw, 11) + [b"ab"]
            calls = [as_numbers(modes), helper.text(*lines)]
            expected = [model.rules(modes), model.text(lines)]
            for number in range(20):
                call, answer = drawn_call(draw, model)
                calls.append(call)
                expected.append(answer)
            with self.subTest(seed=seed):
                self.assertEqual(helper.run(*calls), expected)


if __name__ == "__main__":
    unittest.main()
