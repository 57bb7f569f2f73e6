"""Promise 2: able and do, and what a step is."""

import unittest

from tests.lines import LARGEST, ask, last


class Able(unittest.TestCase):
    def test_no_deeds(self):
        self.assertEqual(last(("begin", 2), ("able",)), [0])
        self.assertEqual(last(("begin", 2), ("event", 0, 0, 1, 1), ("able",)), [0])

    def test_none_able(self):
        self.assertEqual(last(("begin", 2), ("deed", 1, 1, 2, 2), ("deed", 2, 2, 1, 1), ("able",)), [0])

    def test_some_rising(self):
        calls = (("begin", 3), ("deed", 1, 1, 2, 2), ("deed", 1, 0, 2, 2), ("deed", 6, 4, 1, 1), ("deed", 6, 2, 1, 1),
                 ("deed", 0, 0, 1, 1), ("deed", 7, 5, 1, 0))
        self.assertEqual(last(*calls, ("set_to", 0), ("able",)), [2, 1, 4])
        self.assertEqual(last(*calls, ("set_to", 5), ("able",)), [4, 0, 2, 4, 5])
        self.assertEqual(last(*calls, ("set_to", 2), ("able",)), [3, 1, 3, 4])
        self.assertEqual(last(*calls, ("set_to", 7), ("able",)), [2, 0, 4])

    def test_all(self):
        self.assertEqual(last(("begin", 5), *[("deed", 16, 0, 1, 1)] * 6, ("able",)), [6, 0, 1, 2, 3, 4, 5])

    def test_needs_nothing(self):
        for state in range(4):
            self.assertEqual(last(("begin", 2), ("deed", 0, 0, 1, 1), ("set_to", state), ("able",)), [1, 0])

    def test_needs_a_fact_not_to_be_so(self):
        for state, able in ((0, [1, 0]), (1, [1, 0]), (2, [0]), (3, [0])):
            self.assertEqual(last(("begin", 2), ("deed", 2, 0, 1, 1), ("set_to", state), ("able",)), able)

    def test_needs_one_so_and_another_not(self):
        for state in range(8):
            able = [1, 0] if state in (1, 5) else [0]
            self.assertEqual(last(("begin", 3), ("deed", 3, 1, 4, 4), ("set_to", state), ("able",)), able)

    def test_deed_that_changes_nothing_is_able(self):
        self.assertEqual(last(("begin", 2), ("deed", 0, 0, 1, 0), ("able",)), [1, 0])


class Do(unittest.TestCase):
    def test_makes_so_and_not_so_and_leaves_the_others(self):
        for state in range(32):
            found = ask(("begin", 5), ("deed", 0, 0, 7, 5), ("set_to", state), ("do", 0), ("now",))
            self.assertEqual(found[3:], [[state // 8 * 8 + 5]] * 2)

    def test_all_facts_at_once(self):
        found = ask(("begin", 5), ("deed", 31, 0, 31, 31), ("deed", 31, 31, 31, 0), ("do", 0), ("do", 1))
        self.assertEqual(found[3:], [[31], [0]])

    def test_the_deed_that_is_named(self):
        deeds = tuple(("deed", 0, 0, 31, number) for number in (3, 5, 7, 11, 13, 17))
        for i, state in enumerate((3, 5, 7, 11, 13, 17)):
            self.assertEqual(last(("begin", 5), *deeds, ("do", i)), [state])

    def test_no_such_deed(self):
        for i in (2, 3, 6, LARGEST):
            found = ask(("begin", 2), ("deed", 0, 0, 1, 1), ("deed", 0, 0, 2, 2), ("set_to", 2), ("do", i), ("now",))
            self.assertEqual(found[4:], [[-2], [2]])
        for i in (0, 1, LARGEST):
            self.assertEqual(last(("begin", 2), ("do", i)), [-2])

    def test_waiting_is_no_deed_and_no_event_happens(self):
        found = ask(("begin", 2), ("deed", 0, 0, 1, 1), ("event", 0, 0, 2, 2), ("do", 1), ("now",))
        self.assertEqual(found[3:], [[-2], [0]])
        found = ask(("begin", 2), *[("deed", 0, 0, 1, 1)] * 6, ("event", 0, 0, 2, 2), ("do", 6), ("now",))
        self.assertEqual(found[8:], [[-2], [0]])

    def test_need_not_so_changes_nothing(self):
        calls = (("begin", 3), ("deed", 3, 1, 4, 4), ("event", 0, 0, 4, 4))
        for state in (0, 2, 3, 4, 6, 7):
            found = ask(*calls, ("set_to", state), ("do", 0), ("now",))
            self.assertEqual(found[4:], [[-6], [state]])

    def test_deed_that_changes_nothing(self):
        found = ask(("begin", 2), ("deed", 1, 1, 1, 1), ("set_to", 1), ("do", 0), ("now",), ("do", 0))
        self.assertEqual(found[3:], [[1], [1], [1]])

    def test_events_happen_behind_a_deed_that_changes_nothing(self):
        self.assertEqual(last(("begin", 2), ("deed", 0, 0, 1, 0), ("event", 0, 0, 2, 2), ("do", 0)), [2])

    def test_again_and_again(self):
        found = ask(("begin", 2), ("deed", 1, 0, 1, 1), ("deed", 1, 1, 1, 0), ("do", 0), ("do", 0), ("do", 1),
                    ("do", 1), ("do", 0), ("now",))
        self.assertEqual(found[3:], [[1], [-6], [0], [-6], [1], [1]])


class Events(unittest.TestCase):
    def test_undoes_a_deed_at_once(self):
        found = ask(("begin", 2), ("deed", 0, 0, 1, 1), ("event", 1, 1, 1, 0), ("do", 0), ("now",), ("able",))
        self.assertEqual(found[3:], [[0], [0], [1, 0]])

    def test_looks_at_what_the_deed_has_made(self):
        # Its need is so before the deed, and not behind it.
        self.assertEqual(last(("begin", 2), ("deed", 0, 0, 1, 1), ("event", 1, 0, 2, 2), ("do", 0)), [1])
        # Its need is so behind the deed alone.
        self.assertEqual(last(("begin", 2), ("deed", 0, 0, 1, 1), ("event", 1, 1, 2, 2), ("do", 0)), [3])

    def test_does_not_help_the_deed(self):
        # The deed comes ahead of the events: what they'd make so is not so by then.
        self.assertEqual(last(("begin", 2), ("deed", 2, 2, 1, 1), ("event", 0, 0, 2, 2), ("do", 0)), [-6])

    def test_first_makes_the_second_happen(self):
        calls = (("begin", 3), ("deed", 0, 0, 1, 1), ("event", 1, 1, 2, 2), ("event", 2, 2, 4, 4))
        self.assertEqual(last(*calls, ("do", 0)), [7])

    def test_second_does_not_make_the_first_happen(self):
        calls = (("begin", 3), ("deed", 0, 0, 1, 1), ("event", 2, 2, 4, 4), ("event", 1, 1, 2, 2))
        found = ask(*calls, ("do", 0), ("do", 0))
        self.assertEqual(found[4:], [[3], [7]])

    def test_first_keeps_the_second_from_happening(self):
        calls = (("begin", 3), ("deed", 0, 0, 1, 1), ("event", 1, 1, 1, 0), ("event", 1, 1, 4, 4))
        self.assertEqual(last(*calls, ("do", 0)), [0])

    def test_order_matters(self):
        calls = (("begin", 2), ("deed", 0, 0, 1, 1))
        one = ("event", 0, 0, 2, 2)
        other = ("event", 0, 0, 2, 0)
        self.assertEqual(last(*calls, one, other, ("do", 0)), [1])
        self.assertEqual(last(*calls, other, one, ("do", 0)), [3])

    def test_order_behind_one_that_is_taken_out(self):
        calls = (("begin", 2), ("deed", 0, 0, 1, 1), ("event", 0, 0, 2, 2), ("event", 0, 0, 2, 0),
                 ("event", 0, 0, 2, 2))
        self.assertEqual(last(*calls, ("do", 0)), [3])
        self.assertEqual(last(*calls, ("unevent", 2), ("do", 0)), [1])
        self.assertEqual(last(*calls, ("unevent", 1), ("do", 0)), [3])

    def test_need_not_so(self):
        calls = (("begin", 3), ("deed", 0, 0, 1, 1), ("event", 2, 2, 4, 4), ("event", 1, 0, 4, 4),
                 ("event", 5, 5, 2, 2))
        self.assertEqual(last(*calls, ("do", 0)), [1])

    def test_each_happens_once(self):
        # Each makes the other's need so; gone through again they'd go on.
        calls = (("begin", 2), ("deed", 0, 0, 3, 1), ("event", 3, 1, 3, 2), ("event", 3, 2, 3, 1))
        self.assertEqual(last(*calls, ("do", 0)), [1])
        calls = (("begin", 2), ("deed", 0, 0, 3, 1), ("event", 3, 2, 3, 1), ("event", 3, 1, 3, 2))
        self.assertEqual(last(*calls, ("do", 0)), [2])

    def test_all_three(self):
        calls = (("begin", 4), ("deed", 0, 0, 1, 1), ("event", 1, 1, 2, 2), ("event", 2, 2, 4, 4),
                 ("event", 4, 4, 8, 8))
        self.assertEqual(last(*calls, ("do", 0)), [15])


if __name__ == "__main__":
    unittest.main()
