"""Promise 3: reach, settled and never, all that is told of what can come."""

import unittest

from tests.lines import ask, last

# Each of five facts can be made so, and all at once not so: every state can come of every other.
ALL_STATES = (("begin", 5), *[("deed", 0, 0, fact, fact) for fact in (1, 2, 4, 8, 16)], ("deed", 0, 0, 31, 0))
LEADING_ON = (("begin", 3), ("event", 2, 2, 4, 4), ("event", 1, 1, 2, 2))
# Each deed but the last needs what the one behind it makes.
FAR_ON = (("begin", 5), ("deed", 16, 16, 1, 0), ("deed", 8, 8, 16, 16), ("deed", 4, 4, 8, 8), ("deed", 2, 2, 4, 4),
          ("deed", 1, 1, 2, 2), ("deed", 1, 0, 1, 1))


class Reach(unittest.TestCase):
    def test_no_deeds_and_no_events(self):
        for many in (2, 3, 4, 5):
            for state in range(1 << many):
                self.assertEqual(last(("begin", many), ("set_to", state), ("reach",)), [1, state])

    def test_one_deed(self):
        calls = (("begin", 2), ("deed", 1, 0, 1, 1))
        for state, states in ((0, [2, 0, 1]), (1, [1, 1]), (2, [2, 2, 3]), (3, [1, 3])):
            self.assertEqual(last(*calls, ("set_to", state), ("reach",)), states)

    def test_how_it_stands_is_there_though_it_never_comes_again(self):
        self.assertEqual(last(("begin", 2), ("event", 0, 0, 3, 3), ("reach",)), [2, 0, 3])

    def test_waiting_that_leads_on(self):
        for state, states in ((0, [1, 0]), (1, [3, 1, 3, 7]), (3, [2, 3, 7]), (2, [2, 2, 6]), (5, [2, 5, 7]),
                              (7, [1, 7])):
            self.assertEqual(last(*LEADING_ON, ("set_to", state), ("reach",)), states)

    def test_all_states_of_five_facts(self):
        for state in (0, 1, 21, 31):
            self.assertEqual(last(*ALL_STATES, ("set_to", state), ("reach",)), [32] + list(range(32)))

    def test_rising_whatever_comes_first(self):
        calls = (("begin", 3), ("deed", 0, 0, 7, 7), ("deed", 0, 0, 7, 4), ("deed", 0, 0, 7, 2), ("set_to", 5))
        self.assertEqual(last(*calls, ("reach",)), [4, 2, 4, 5, 7])
        calls = (("begin", 5), ("deed", 31, 30, 31, 1), ("deed", 31, 1, 31, 16), ("deed", 31, 16, 31, 15))
        self.assertEqual(last(*calls, ("set_to", 30), ("reach",)), [4, 1, 15, 16, 30])

    def test_far_on(self):
        self.assertEqual(last(*FAR_ON, ("undeed", 0), ("reach",)), [6, 0, 1, 3, 7, 15, 31])

    def test_what_an_event_undoes_at_once_does_not_come(self):
        self.assertEqual(last(("begin", 2), ("deed", 0, 0, 1, 1), ("event", 1, 1, 1, 0), ("reach",)), [1, 0])

    def test_what_an_event_adds_at_once_comes_with_it(self):
        self.assertEqual(last(("begin", 3), ("deed", 0, 0, 1, 1), ("event", 1, 1, 2, 2), ("event", 2, 2, 4, 4),
                              ("reach",)), [2, 0, 7])

    def test_a_deed_that_needs_what_waiting_brings(self):
        calls = (("begin", 3), ("deed", 2, 2, 4, 4), ("event", 6, 0, 2, 2))
        self.assertEqual(last(*calls, ("reach",)), [3, 0, 2, 6])

    def test_a_deed_is_needed_ahead_of_an_event(self):
        # Waiting takes fact 0 away for good; the deed can be done before that alone.
        calls = (("begin", 2), ("deed", 1, 1, 2, 2), ("event", 3, 1, 1, 0), ("set_to", 1))
        self.assertEqual(last(*calls, ("reach",)), [3, 0, 1, 3])

    def test_a_deed_that_changes_nothing(self):
        self.assertEqual(last(("begin", 2), ("deed", 0, 0, 1, 0), ("reach",)), [1, 0])

    def test_behind_every_change(self):
        found = ask(("begin", 2), ("reach",), ("deed", 0, 0, 1, 1), ("reach",), ("event", 0, 0, 2, 2), ("reach",),
                    ("do", 0), ("reach",), ("set_to", 2), ("reach",), ("unevent", 0), ("set_to", 0), ("reach",),
                    ("undeed", 0), ("reach",), ("event", 0, 0, 1, 1), ("reach",), ("wait", 1), ("reach",),
                    ("begin", 3), ("reach",))
        told = [answer for place, answer in enumerate(found) if place in (1, 3, 5, 7, 9, 12, 14, 16, 18, 20)]
        self.assertEqual(told, [[1, 0], [2, 0, 1], [3, 0, 2, 3], [1, 3], [2, 2, 3], [2, 0, 1], [1, 0], [2, 0, 1],
                                [1, 1], [1, 0]])


class Settled(unittest.TestCase):
    def test_no_deeds_and_no_events(self):
        for many in (2, 3, 4, 5):
            for state in range(1 << many):
                self.assertEqual(last(("begin", many), ("set_to", state), ("settled",)), [many] + list(range(many)))

    def test_one_so_and_one_not_so_and_one_that_changes(self):
        calls = (("begin", 3), ("deed", 0, 0, 2, 2))
        self.assertEqual(last(*calls, ("set_to", 1), ("settled",)), [2, 0, 2])
        self.assertEqual(last(*calls, ("set_to", 4), ("settled",)), [2, 0, 2])
        self.assertEqual(last(*calls, ("set_to", 5), ("settled",)), [2, 0, 2])

    def test_so_in_all_that_can_come(self):
        self.assertEqual(last(("begin", 2), ("deed", 0, 0, 1, 1), ("deed", 2, 2, 2, 0), ("deed", 2, 0, 2, 2),
                              ("set_to", 1), ("settled",)), [1, 0])

    def test_not_so_in_any_that_can_come(self):
        self.assertEqual(last(("begin", 2), ("deed", 1, 1, 2, 2), ("deed", 1, 1, 1, 0), ("deed", 1, 0, 1, 1),
                              ("event", 0, 0, 2, 0), ("settled",)), [1, 1])

    def test_none(self):
        for state in (0, 9, 31):
            self.assertEqual(last(*ALL_STATES, ("set_to", state), ("settled",)), [0])

    def test_all_with_deeds_and_events_that_change_nothing(self):
        calls = (("begin", 3), ("deed", 1, 1, 2, 2), ("deed", 0, 0, 4, 0), ("event", 2, 2, 1, 1), ("event", 0, 0, 1, 0))
        self.assertEqual(last(*calls, ("settled",)), [3, 0, 1, 2])

    def test_so_then_and_for_ever_but_not_now(self):
        calls = (("begin", 2), ("event", 0, 0, 1, 1))
        self.assertEqual(last(*calls, ("settled",)), [1, 1])
        self.assertEqual(last(*calls, ("wait", 1), ("settled",)), [2, 0, 1])

    def test_changed_far_on(self):
        self.assertEqual(last(*FAR_ON, ("settled",)), [0])
        self.assertEqual(last(*FAR_ON, ("undeed", 1), ("settled",)), [1, 4])
        self.assertEqual(last(*FAR_ON, ("undeed", 4), ("set_to", 4), ("settled",)), [2, 1, 2])

    def test_undone_at_once_is_settled(self):
        self.assertEqual(last(("begin", 2), ("deed", 0, 0, 1, 1), ("event", 1, 1, 1, 0), ("settled",)), [2, 0, 1])

    def test_behind_every_change(self):
        found = ask(("begin", 2), ("deed", 0, 0, 1, 1), ("settled",), ("do", 0), ("settled",), ("event", 2, 0, 2, 2),
                    ("settled",), ("wait", 1), ("settled",), ("undeed", 0), ("set_to", 0), ("settled",),
                    ("unevent", 0), ("settled",))
        told = [found[place] for place in (2, 4, 6, 8, 11, 13)]
        self.assertEqual(told, [[1, 1], [2, 0, 1], [1, 0], [2, 0, 1], [1, 0], [2, 0, 1]])


class Never(unittest.TestCase):
    def test_no_deeds(self):
        self.assertEqual(last(("begin", 2), ("never",)), [0])
        self.assertEqual(last(("begin", 2), ("event", 1, 1, 2, 2), ("never",)), [0])

    def test_one_that_can_be_done_now(self):
        self.assertEqual(last(("begin", 2), ("deed", 0, 0, 1, 1), ("never",)), [0])
        self.assertEqual(last(("begin", 2), ("deed", 3, 0, 3, 3), ("never",)), [0])

    def test_needs_that_never_come(self):
        self.assertEqual(last(("begin", 2), ("deed", 1, 1, 2, 2), ("never",)), [1, 0])
        self.assertEqual(last(("begin", 2), ("deed", 1, 0, 2, 2), ("set_to", 1), ("never",)), [1, 0])

    def test_far_on(self):
        self.assertEqual(last(*FAR_ON, ("never",)), [0])
        self.assertEqual(last(*FAR_ON, ("undeed", 5), ("never",)), [5, 0, 1, 2, 3, 4])
        self.assertEqual(last(*FAR_ON, ("undeed", 3), ("never",)), [3, 0, 1, 2])
        self.assertEqual(last(*FAR_ON, ("undeed", 5), ("set_to", 4), ("never",)), [2, 3, 4])

    def test_each_fact_comes_but_never_both_at_once(self):
        calls = (("begin", 2), ("deed", 0, 0, 3, 1), ("deed", 3, 3, 3, 0), ("deed", 0, 0, 3, 2), ("deed", 3, 1, 3, 0))
        self.assertEqual(last(*calls, ("never",)), [1, 1])

    def test_what_an_event_takes_away_at_once(self):
        calls = (("begin", 2), ("deed", 1, 1, 2, 2), ("deed", 0, 0, 1, 1), ("event", 1, 1, 1, 0))
        self.assertEqual(last(*calls, ("never",)), [1, 0])
        self.assertEqual(last(*calls, ("set_to", 1), ("never",)), [0])
        self.assertEqual(last(*calls, ("set_to", 1), ("wait", 1), ("never",)), [1, 0])

    def test_what_waiting_brings(self):
        self.assertEqual(last(*LEADING_ON, ("deed", 4, 4, 7, 0), ("set_to", 1), ("never",)), [0])
        self.assertEqual(last(*LEADING_ON, ("deed", 4, 4, 7, 0), ("set_to", 0), ("never",)), [1, 0])

    def test_some_rising(self):
        calls = (("begin", 3), ("deed", 4, 4, 1, 1), ("deed", 0, 0, 2, 2), ("deed", 6, 4, 1, 1), ("deed", 2, 2, 1, 1),
                 ("deed", 1, 1, 1, 0), ("deed", 7, 7, 1, 1))
        self.assertEqual(last(*calls, ("never",)), [3, 0, 2, 5])
        self.assertEqual(last(*calls, ("set_to", 4), ("never",)), [0])

    def test_all_six(self):
        self.assertEqual(last(("begin", 5), *[("deed", 16, 16, 16, 16)] * 6, ("never",)), [6, 0, 1, 2, 3, 4, 5])


if __name__ == "__main__":
    unittest.main()
