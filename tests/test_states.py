"""Promise 1: set (set_to) and now."""

import unittest

from tests.lines import LARGEST, ask


class HowItStands(unittest.TestCase):
    def test_none_is_so_at_first(self):
        self.assertEqual(ask(("begin", 2), ("now",)), [[0], [0]])

    def test_how_it_stood_is_answered(self):
        found = ask(("begin", 4), ("set_to", 9), ("now",), ("set_to", 6), ("set_to", 6), ("set_to", 0), ("now",))
        self.assertEqual(found[1:], [[0], [9], [9], [6], [6], [0]])

    def test_every_state(self):
        for many in (2, 3, 4, 5):
            states = 1 << many
            calls = [("set_to", state) for state in range(states)]
            found = ask(("begin", many), *calls, ("now",))
            self.assertEqual(found[1:], [[0]] + [[state] for state in range(states)])

    def test_what_is_no_state_is_refused_and_changes_nothing(self):
        for many in (2, 3, 4, 5):
            states = 1 << many
            for wrong in (states, states + 1, 2 * states, 64, 2147483648, LARGEST - states + 1, LARGEST):
                found = ask(("begin", many), ("set_to", 2), ("set_to", wrong), ("now",), ("set_to", 1))
                self.assertEqual(found[1:], [[0], [-22], [2], [2]])

    def test_no_event_happens(self):
        found = ask(("begin", 2), ("event", 0, 0, 2, 2), ("set_to", 1), ("now",), ("now",))
        self.assertEqual(found[2:], [[0], [1], [1]])

    def test_now_and_able_change_nothing(self):
        found = ask(("begin", 2), ("event", 0, 0, 2, 2), ("deed", 0, 0, 1, 1), ("now",), ("able",), ("now",))
        self.assertEqual(found[3:], [[0], [1, 0], [0]])

    def test_deeds_and_events_stay(self):
        found = ask(("begin", 2), ("deed", 1, 1, 2, 2), ("event", 1, 1, 1, 0), ("set_to", 3), ("set_to", 4),
                    ("deedis", 0), ("eventis", 0))
        self.assertEqual(found[5:], [[1, 1, 2, 2], [1, 1, 1, 0]])


if __name__ == "__main__":
    unittest.main()
