"""Many lines, drawn by a fixed seed, held against the second telling in model.py."""

import random
import unittest

from tests.lines import LARGEST, ask
from tests.model import Model

HOW_OFTEN = (
    ("begin", 1), ("deed", 14), ("event", 6), ("undeed", 3), ("unevent", 2), ("deedis", 3), ("eventis", 2),
    ("set_to", 5), ("now", 4), ("able", 8), ("do", 24),
)
HOW_MANY_GIVEN = {"deed": 4, "event": 4, "now": 0, "able": 0}


class Drawn:
    def __init__(self, seed):
        self.source = random.Random(seed)
        self.many = self.source.randrange(2, 6)

    def part(self, whole):
        return whole & self.source.randrange(1 << self.many)

    def rule(self):
        full = (1 << self.many) - 1
        a = self.part(full) & self.part(full)
        c = self.part(full)
        rule = [a, self.part(a), c, self.part(c)]
        if self.source.random() < 0.1:
            rule[self.source.randrange(4)] = self.wrong()
        return tuple(rule)

    def wrong(self):
        return self.source.choice((0, 1, 3, 1 << self.many, 31, 32, 2147483648, LARGEST, self.source.randrange(1 << 32)))

    def call(self):
        name = self.source.choices([one for one, often in HOW_OFTEN], [often for one, often in HOW_OFTEN])[0]
        if name in ("now", "able"):
            return (name,)
        if name in ("deed", "event"):
            return (name,) + self.rule()
        if self.source.random() < 0.05:
            return (name, self.wrong())
        most = {"begin": 7, "set_to": (1 << self.many) + 1, "do": 5}.get(name, 4)
        return (name, self.source.randrange(most))

    def line(self):
        first = [("begin", self.many)] if self.source.random() < 0.95 else []
        return first + [self.call() for step in range(self.source.randrange(1, 60))]


class AgainstTheModel(unittest.TestCase):
    def test_lines(self):
        for seed in range(1500):
            line = Drawn(seed).line()
            model = Model()
            self.assertEqual(ask(*line), [model.answer(*call) for call in line], line)

    def test_every_deed_and_event_of_two_facts(self):
        rules = [(a, a & b, c, c & d) for a in range(4) for b in range(4) for c in (1, 2, 3) for d in range(4)
                 if (a & b, c & d) == (b, d)]
        for deed in rules:
            for event in rules:
                line = [("begin", 2), ("deed",) + deed, ("event",) + event]
                for state in range(4):
                    line += [("set_to", state), ("able",), ("do", 0)]
                model = Model()
                self.assertEqual(ask(*line), [model.answer(*call) for call in line], line)


if __name__ == "__main__":
    unittest.main()
