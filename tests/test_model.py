"""Made texts, asked of the program and of the plain model: promises 3 to 5 and "What may be"."""

import random
import unittest

from tests.helper import PlainModel, asked, least, stuck, told, way


def made_bounds(chance, clocks, signs, most):
    return [f"{chance.choice(clocks)}{chance.choice(signs)}{chance.randint(0, most)}"
            for count in range(chance.choice((0, 0, 0, 1, 1, 2))) if clocks]


def made_edge(chance, places, clocks, signals, most):
    words = ["edge", chance.choice(places), chance.choice(places)]
    bounds = made_bounds(chance, clocks, ("<=", ">="), most)
    if bounds or chance.random() < 0.1:
        words += ["when"] + bounds
    if chance.random() < 0.4:
        words += ["set"] + chance.sample(clocks, chance.randint(0, len(clocks)))
    if signals and chance.random() < 0.6:
        words += [chance.choice(("give", "take")), chance.choice(signals)]
    return " ".join(words)


def made_text(chance):
    clocks = ["x", "y", "z"][:chance.choice((0, 1, 1, 2, 2, 3))]
    signals = ["s", "t"][:chance.choice((0, 1, 1, 1, 2))]
    most = chance.choice((2, 4, 15))
    lines = ["clock " + name for name in clocks] + ["signal " + name for name in signals]
    for machine in ["A", "B", "C"][:chance.choice((1, 2, 2, 3, 3))]:
        places = ["p", "q", "r"][:chance.randint(1, 3)]
        # A start that can't be is right now and then, but nothing more is seen of such a text.
        signs = ("<=", ">=") if chance.random() < 0.1 else ("<=",)
        lines.append("machine " + machine)
        for place in places:
            lines.append(" ".join(["place", place] + made_bounds(chance, clocks, signs, most)))
            signs = ("<=", "<=", ">=")
        lines += [made_edge(chance, places, clocks, signals, most) for count in range(chance.randint(1, 7))]
    return told(*lines)


def made_asks(chance, model):
    words = [machine["name"] + "." + chance.choice(machine["places"])[0]
             for machine in model.machines if chance.random() < 0.6]
    return " ".join(words)


class MadeTexts(unittest.TestCase):
    def test_like_the_plain_model(self):
        chance = random.Random(20)
        compared = 0
        for count in range(600):
            text = made_text(chance)
            model = PlainModel(text)
            ways = model.all_ways()
            if len(ways) > 2000:
                continue
            compared += 1
            units = model.units(ways)
            asks = [made_asks(chance, model) for number in range(6)]
            expected = [model.way(ways, words) for words in asks] + [model.least(units, words) for words in asks]
            calls = [way(words) for words in asks] + [least(words) for words in asks]
            self.assertEqual(asked(text, *calls, stuck()), expected + [model.stuck(ways)], text)
        self.assertGreater(compared, 400)


if __name__ == "__main__":
    unittest.main()
