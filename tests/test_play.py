"""Promise 2: play, and waiting as a choice among the deeds."""

import unittest

from tests.lines import LARGEST, ask, last

# Deed 0 makes fact 0 so, deed 1 makes it not so; 2 is waiting.
ON_AND_OFF = (("begin", 2), ("deed", 1, 0, 1, 1), ("deed", 1, 1, 1, 0))


class Play(unittest.TestCase):
    def check(self, calls, choices, state, many):
        """What play tells, and that it stands behind it as before."""
        before = ask(*calls, ("now",))[-1]
        found = ask(*calls, ("play",) + tuple(choices), ("now",))
        self.assertEqual(found[-2:], [[state, many], before], choices)

    def test_no_choices(self):
        for state in range(4):
            self.check((*ON_AND_OFF, ("event", 0, 0, 3, 3), ("set_to", state)), (), state, 0)
        self.check((("begin", 5),), (), 0, 0)

    def test_one_choice(self):
        self.check(ON_AND_OFF, (0,), 1, 1)
        self.check(ON_AND_OFF, (2,), 0, 1)
        self.check((*ON_AND_OFF, ("set_to", 3)), (1,), 2, 1)

    def test_forty_choices(self):
        self.check(ON_AND_OFF, (0, 1) * 20, 0, 40)
        self.check(ON_AND_OFF, (2,) + (0, 1) * 19 + (0,), 1, 40)
        self.check(ON_AND_OFF, (0, 1) * 19 + (0, 0), 1, 39)
        self.check(ON_AND_OFF, (2,) * 40, 0, 40)

    def test_first_can_not_be_done(self):
        self.check(ON_AND_OFF, (1,), 0, 0)
        self.check(ON_AND_OFF, (1, 0, 2), 0, 0)
        self.check((*ON_AND_OFF, ("event", 0, 0, 2, 2)), (1, 0, 2), 0, 0)

    def test_stopped_in_the_midst(self):
        self.check(ON_AND_OFF, (0, 0, 1), 1, 1)
        self.check(ON_AND_OFF, (0, 1, 1, 0), 0, 2)
        self.check(ON_AND_OFF, (0, 2, 1, 0, 0, 2, 2), 1, 4)
        self.check((*ON_AND_OFF, ("event", 3, 1, 2, 2)), (2, 2, 0, 0, 1), 3, 3)

    def test_stopped_at_the_last(self):
        self.check(ON_AND_OFF, (0, 1, 0, 0), 1, 3)

    def test_waiting_among_the_choices(self):
        calls = (("begin", 3), *ON_AND_OFF[1:], ("event", 3, 3, 4, 4), ("event", 1, 1, 2, 2))
        for choices, state in (((0,), 3), ((0, 2), 7), ((2, 0), 3), ((2, 0, 2, 1), 6), ((0, 1, 2), 2), ((2, 2), 0)):
            self.check(calls, choices, state, len(choices))

    def test_waiting_brings_what_a_deed_needs(self):
        calls = (("begin", 3), ("deed", 4, 4, 7, 0), ("event", 2, 2, 4, 4), ("event", 1, 1, 2, 2), ("set_to", 1))
        self.check(calls, (0,), 1, 0)
        self.check(calls, (1, 0), 3, 1)
        self.check(calls, (1, 1, 0), 0, 3)
        self.check(calls, (1, 1, 0, 0), 0, 3)

    def test_event_that_undoes_a_deed_at_once(self):
        self.check((("begin", 2), ("deed", 1, 0, 1, 1), ("event", 1, 1, 1, 0)), (0, 0, 0), 0, 3)

    def test_no_deeds(self):
        self.check((("begin", 2), ("event", 0, 0, 1, 1)), (0, 0), 1, 2)
        self.assertEqual(ask(("begin", 2), ("event", 0, 0, 1, 1), ("play", 1), ("now",))[2:], [[-2], [0]])

    def test_six_deeds(self):
        deeds = tuple(("deed", 0, 0, 31, number) for number in (3, 5, 7, 11, 13, 17))
        for i, state in enumerate((3, 5, 7, 11, 13, 17)):
            self.check((("begin", 5), *deeds), (i,), state, 1)
            self.check((("begin", 5), *deeds), (5, 6, i, 6), state, 4)
        self.assertEqual(last(("begin", 5), *deeds, ("play", 6, 7)), [-2])

    def test_no_such_choice_wherever_it_stands(self):
        for wrong in (3, 4, 7, 2147483648, LARGEST):
            for choices in ((wrong,), (wrong, 0, 1), (0, wrong, 1), (0, 1, wrong), (2, 2, wrong), (wrong,) * 40,
                            (0, 1) * 19 + (0, wrong)):
                self.assertEqual(ask(*ON_AND_OFF, ("play",) + choices, ("now",))[3:], [[-2], [0]], choices)

    def test_no_such_choice_behind_one_that_can_not_be_done(self):
        for wrong in (3, 4, LARGEST):
            for choices in ((1, wrong), (wrong, 1), (0, 0, wrong), (0, 0, wrong, 1), (1,) * 39 + (wrong,)):
                self.assertEqual(ask(*ON_AND_OFF, ("play",) + choices, ("now",))[3:], [[-2], [0]], choices)

    def test_waitings_number_goes_with_the_deeds(self):
        found = ask(*ON_AND_OFF, ("play", 2), ("undeed", 0), ("play", 2), ("play", 1), ("deed", 0, 0, 2, 2),
                    ("play", 2), ("play", 1), ("undeed", 0), ("undeed", 0), ("play", 1), ("play", 0))
        self.assertEqual(found[3:], [[0, 1], [1], [-2], [0, 1], [1], [0, 1], [2, 1], [1], [0], [-2], [0, 1]])

    def test_goes_on_from_how_it_stands(self):
        found = ask(*ON_AND_OFF, ("do", 0), ("play", 0), ("play", 1), ("do", 1), ("play", 0), ("set_to", 3),
                    ("play", 1, 0, 1))
        self.assertEqual(found[3:], [[1], [1, 0], [0, 1], [0], [1, 1], [0], [2, 3]])

    def test_is_what_doing_and_waiting_lead_to(self):
        calls = (*ON_AND_OFF, ("event", 3, 2, 2, 0), ("event", 3, 1, 2, 2))
        done = ask(*calls, ("do", 0), ("wait", 1), ("do", 1), ("wait", 1))[5:]
        for many in range(5):
            state = done[many - 1][0] if many else 0
            self.check(calls, (0, 2, 1, 2)[:many], state, many)


if __name__ == "__main__":
    unittest.main()
