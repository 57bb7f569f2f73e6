"""Promise 1, begin; and what is answered before a begin that's answered 0."""

import unittest

from tests.lines import LARGEST, ask, last

BEFORE = (
    ("deed", 1, 1, 2, 2), ("event", 1, 1, 2, 2), ("undeed", 0), ("unevent", 0), ("deedis", 0), ("eventis", 0),
    ("set_to", 0), ("now",), ("able",), ("do", 0), ("wait", 1), ("reach",), ("canbe", 1, 1), ("fewest", 1, 1),
    ("row", 1, 1), ("undo", 0), ("lost", 0), ("settled",), ("never",), ("byitself", 1), ("play",), ("play", 0),
)
WRONG_BEFORE = (
    ("deed", LARGEST, 0, 0, 0), ("deed", 1, 2, 1, 2), ("event", 1, 2, 0, 0), ("undeed", LARGEST),
    ("unevent", 7), ("deedis", LARGEST), ("eventis", 3), ("set_to", LARGEST), ("set_to", 32), ("do", LARGEST),
    ("wait", 41), ("canbe", LARGEST, 0), ("canbe", 1, 2), ("fewest", 1, 2), ("row", 64, 0), ("undo", 9),
    ("lost", LARGEST), ("byitself", 41), ("play",) + (LARGEST,) * 40,
)


class HowManyFacts(unittest.TestCase):
    def test_two_to_five(self):
        for many in (2, 3, 4, 5):
            self.assertEqual(last(("begin", many)), [0])

    def test_others_are_refused(self):
        for many in (0, 1, 6, 7, 32, LARGEST):
            self.assertEqual(last(("begin", many)), [-22])

    def test_so_many_facts(self):
        for many in (2, 3, 4, 5):
            states = 1 << many
            found = ask(("begin", many), ("set_to", states), ("set_to", states - 1), ("now",))
            self.assertEqual(found, [[0], [-22], [0], [states - 1]])

    def test_nothing_is_there(self):
        found = ask(("begin", 5), ("now",), ("able",), ("deedis", 0), ("eventis", 0), ("undeed", 0), ("unevent", 0))
        self.assertEqual(found, [[0], [0], [0], [-2], [-2], [-2], [-2]])


class BeginAgain(unittest.TestCase):
    FILLED = (("begin", 3), ("deed", 0, 0, 1, 1), ("deed", 1, 1, 2, 2), ("event", 4, 4, 1, 0), ("set_to", 5))

    def test_takes_all_away(self):
        found = ask(*self.FILLED, ("begin", 3), ("now",), ("able",), ("deedis", 0), ("eventis", 0))
        self.assertEqual(found[5:], [[0], [0], [0], [-2], [-2]])

    def test_numbers_begin_anew(self):
        found = ask(*self.FILLED, ("begin", 3), ("deed", 0, 0, 1, 1), ("event", 0, 0, 1, 1))
        self.assertEqual(found[5:], [[0], [0], [0]])

    def test_fewer_and_more_facts(self):
        found = ask(*self.FILLED, ("begin", 2), ("set_to", 4), ("begin", 5), ("set_to", 31), ("now",))
        self.assertEqual(found[5:], [[0], [-22], [0], [0], [31]])

    def test_events_are_gone(self):
        found = ask(*self.FILLED, ("begin", 3), ("set_to", 4), ("deed", 0, 0, 1, 1), ("do", 0))
        self.assertEqual(found[-1], [5])

    def test_refused_changes_nothing(self):
        for many in (0, 1, 6, LARGEST):
            found = ask(*self.FILLED, ("begin", many), ("now",), ("deedis", 0), ("deedis", 1), ("eventis", 0),
                        ("set_to", 8), ("set_to", 7), ("able",))
            self.assertEqual(found[5:], [[-22], [5], [0, 0, 1, 1], [1, 1, 2, 2], [4, 4, 1, 0],
                                         [-22], [5], [2, 0, 1]])


class BeforeBegin(unittest.TestCase):
    def test_each_call_alone(self):
        for call in BEFORE:
            self.assertEqual(ask(call), [[-11]], call)

    def test_each_call_with_wrong_numbers(self):
        for call in WRONG_BEFORE:
            self.assertEqual(ask(call), [[-11]], call)

    def test_all_in_one_line(self):
        for calls in (BEFORE, WRONG_BEFORE):
            self.assertEqual(ask(*calls), [[-11]] * len(calls))

    def test_behind_a_refused_begin(self):
        for many in (0, 1, 6, LARGEST):
            found = ask(("begin", many), *BEFORE)
            self.assertEqual(found, [[-22]] + [[-11]] * len(BEFORE))

    def test_changes_nothing(self):
        found = ask(*BEFORE, ("set_to", 3), ("begin", 2), ("now",), ("deedis", 0), ("eventis", 0), ("able",))
        self.assertEqual(found[-5:], [[0], [0], [-2], [-2], [0]])

    def test_refused_begin_then_a_begin(self):
        found = ask(("begin", 6), ("now",), ("begin", 2), ("now",), ("begin", 1), ("now",))
        self.assertEqual(found, [[-22], [-11], [0], [0], [-22], [0]])

    def test_play_of_every_length_is_read_past(self):
        for many in range(41):
            found = ask(("play",) + tuple(range(many)), ("begin", 2), ("now",))
            self.assertEqual(found, [[-11], [0], [0]])


if __name__ == "__main__":
    unittest.main()
