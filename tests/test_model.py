"""Many lines, drawn by a fixed seed, held against the second telling in model.py."""

import itertools
import unittest

from tests.drawn import Drawn
from tests.lines import ask
from tests.model import Model

ASKED = (("reach",), ("settled",), ("never",), ("byitself", 3), ("undo", 0), ("lost", 0), ("undo", 1), ("lost", 1),
         ("row", 1, 1), ("row", 2, 2), ("row", 3, 3), ("row", 3, 0))


class AgainstTheModel(unittest.TestCase):
    def check(self, line):
        model = Model()
        self.assertEqual(ask(*line), [model.answer(*call) for call in line], line)

    def test_lines(self):
        for seed in range(1000):
            self.check(Drawn(seed).line())

    def test_lines_of_questions(self):
        # The deeds and events come first and stay, so that more is asked of a full desk.
        for seed in range(300):
            self.check(Drawn(seed).full_line())

    def test_lines_of_questions_with_long_rows(self):
        for seed in range(300):
            self.check(Drawn(seed).counting_line())

    def test_every_deed_and_event_of_two_facts(self):
        rules = [(a, a & b, c, c & d) for a in range(4) for b in range(4) for c in (1, 2, 3) for d in range(4)
                 if (a & b, c & d) == (b, d)]
        for deed, event in itertools.product(rules, repeat=2):
            line = [("begin", 2), ("deed",) + deed, ("event",) + event]
            for state in range(4):
                line += [("set_to", state), ("able",), ("do", 0)]
            for state in range(3):
                line += [("set_to", state), *ASKED]
            self.check(line)


class AgainstAllRows(unittest.TestCase):
    """Every row there is, the shorter ones first, then the lesser ones: the first that leads there is the one."""

    def first_row(self, model, so, is_end):
        choices = range(len(model.kinds["deed"]) + 1)
        for many in range(2 ** len(model.facts)):
            for row in itertools.product(choices, repeat=many):
                model.so = so
                states = model.played(row)
                if len(states) == many + 1 and is_end(states[-1]):
                    return list(row)
        return None

    def test_rows(self):
        for seed in range(300):
            line = Drawn(seed, many=2 + seed % 2).small_desk()
            model = Model()
            for call in line:
                model.answer(*call)
            so = model.so
            for a, b in ((1, 1), (3, 3), (3, 2), (2, 0)):
                row = self.first_row(model, so, lambda end: sum(2 ** q for q in end) & a == b)
                told = [-33] if row is None else [len(row)] + row
                self.assertEqual(ask(*line, ("row", a, b))[-1], told, (line, a, b))
            for choice in range(len(model.kinds["deed"]) + 1):
                behind = model.behind(choice, so)
                if behind is not None:
                    row = self.first_row(model, behind, lambda end: end == so)
                    told = [-33] if row is None else [len(row)] + row
                    self.assertEqual(ask(*line, ("undo", choice))[-1], told, (line, choice))


if __name__ == "__main__":
    unittest.main()
