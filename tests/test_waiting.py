"""Promise 2: wait and byitself, the steps by waiting."""

import unittest

from tests.lines import LARGEST, ask, last

# An event looks at what is so by then, so these two, told back to front, lead on by one fact a step: 1, 3, 7.
LEADING_ON = (("begin", 3), ("event", 2, 2, 4, 4), ("event", 1, 1, 2, 2), ("set_to", 1))
# 0, then 1, 2, 1, 2 and so on.
ROUND = (("begin", 2), ("event", 3, 2, 3, 0), ("event", 3, 1, 3, 2), ("event", 3, 0, 3, 1))


class Wait(unittest.TestCase):
    def test_no_events(self):
        for state in range(4):
            for steps in (0, 1, 2, 39, 40):
                found = ask(("begin", 2), ("set_to", state), ("wait", steps), ("now",))
                self.assertEqual(found[2:], [[state], [state]])

    def test_leads_on_step_by_step(self):
        for steps, state in ((0, 1), (1, 3), (2, 7), (3, 7), (39, 7), (40, 7)):
            self.assertEqual(ask(*LEADING_ON, ("wait", steps), ("now",))[4:], [[state], [state]])

    def test_goes_round_and_round(self):
        for steps, state in ((0, 0), (1, 1), (2, 2), (3, 1), (4, 2), (38, 2), (39, 1), (40, 2)):
            self.assertEqual(ask(*ROUND, ("wait", steps), ("now",))[4:], [[state], [state]])

    def test_one_behind_another(self):
        found = ask(*ROUND, ("wait", 1), ("wait", 1), ("wait", 0), ("wait", 1), ("wait", 40), ("wait", 39), ("now",))
        self.assertEqual(found[4:], [[1], [2], [2], [1], [1], [2], [2]])

    def test_above_forty_changes_nothing(self):
        for steps in (41, 42, 4294967254, 2147483648, LARGEST):
            self.assertEqual(ask(*LEADING_ON, ("wait", steps), ("now",))[4:], [[-22], [1]])
            self.assertEqual(ask(("begin", 2), ("wait", steps), ("now",)), [[0], [-22], [0]])

    def test_no_deed_is_done(self):
        found = ask(("begin", 2), ("deed", 0, 0, 1, 1), ("wait", 5), ("now",), ("deed", 0, 0, 2, 2), ("wait", 1))
        self.assertEqual(found[2:], [[0], [0], [1], [0]])

    def test_all_events_happen_in_order(self):
        self.assertEqual(last(("begin", 3), ("event", 0, 0, 1, 1), ("event", 1, 1, 2, 2), ("event", 2, 2, 5, 4),
                              ("wait", 1)), [6])
        self.assertEqual(last(("begin", 2), ("event", 0, 0, 1, 1), ("event", 1, 1, 1, 0), ("wait", 1)), [0])
        self.assertEqual(last(("begin", 2), ("event", 1, 1, 1, 0), ("event", 0, 0, 1, 1), ("wait", 1)), [1])

    def test_behind_a_change(self):
        found = ask(*LEADING_ON, ("unevent", 1), ("wait", 9), ("set_to", 2), ("wait", 1), ("do", 0), ("wait", 1))
        self.assertEqual(found[5:], [[1], [1], [6], [-2], [6]])
        found = ask(*LEADING_ON, ("begin", 3), ("set_to", 1), ("wait", 3))
        self.assertEqual(found[4:], [[0], [0], [1]])

    def test_deeds_go_on_from_there(self):
        found = ask(*LEADING_ON, ("deed", 4, 4, 7, 0), ("do", 0), ("wait", 2), ("do", 0), ("now",))
        self.assertEqual(found[4:], [[0], [-6], [7], [0], [0]])


class ByItself(unittest.TestCase):
    def test_no_events(self):
        for state in range(4):
            for steps in (0, 1, 40):
                self.assertEqual(last(("begin", 2), ("set_to", state), ("byitself", steps)), [state])

    def test_leads_on_and_leaves_it_as_it_is(self):
        for steps, state in ((0, 1), (1, 3), (2, 7), (3, 7), (40, 7)):
            self.assertEqual(ask(*LEADING_ON, ("byitself", steps), ("now",))[4:], [[state], [1]])

    def test_goes_round_and_round(self):
        for steps, state in ((0, 0), (1, 1), (2, 2), (3, 1), (39, 1), (40, 2)):
            self.assertEqual(ask(*ROUND, ("byitself", steps), ("now",))[4:], [[state], [0]])

    def test_above_forty(self):
        for steps in (41, 42, 2147483648, LARGEST):
            self.assertEqual(ask(*LEADING_ON, ("byitself", steps), ("now",))[4:], [[-22], [1]])
            self.assertEqual(last(("begin", 2), ("byitself", steps)), [-22])

    def test_no_deed_is_done(self):
        self.assertEqual(last(("begin", 2), ("deed", 0, 0, 1, 1), ("byitself", 3)), [0])

    def test_is_what_waiting_leads_to(self):
        for steps in range(41):
            for calls in (LEADING_ON, ROUND):
                found = ask(*calls, ("byitself", steps), ("byitself", steps), ("wait", steps), ("now",))[4:]
                self.assertEqual(found, [found[0]] * 4)

    def test_goes_on_from_how_it_stands(self):
        found = ask(*LEADING_ON, ("wait", 1), ("byitself", 1), ("set_to", 0), ("byitself", 1), ("now",))
        self.assertEqual(found[4:], [[3], [7], [3], [0], [0]])


if __name__ == "__main__":
    unittest.main()
