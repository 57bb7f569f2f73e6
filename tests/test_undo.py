"""Promise 3: undo and lost, the way back from a choice and what there's no way to behind it."""

import unittest

from tests.lines import LARGEST, ask, last

COUNTING = (("begin", 5), *[("deed", 2 * fact - 1, fact - 1, 2 * fact - 1, fact) for fact in (1, 2, 4, 8, 16)])
ROUND_ALL = (*COUNTING, ("deed", 31, 31, 31, 0))


class UndoAndLost(unittest.TestCase):
    def check(self, calls, choice, row, lost):
        """What undo and lost tell (row None: there's no way back), and that it stands as before."""
        state = ask(*calls, ("now",))[-1][0]
        undone = [-33] if row is None else [len(row)] + row
        found = ask(*calls, ("undo", choice), ("lost", choice), ("now",))[-3:]
        self.assertEqual(found, [undone, [len(lost)] + lost, [state]])
        self.assertEqual(row is None, lost != [])
        if row is not None:
            self.assertEqual(last(*calls, ("play", choice) + tuple(row)), [state, 1 + len(row)])

    def check_refused(self, calls, choice, refusal):
        before = ask(*calls, ("now",))[-1]
        found = ask(*calls, ("undo", choice), ("lost", choice), ("now",))[-3:]
        self.assertEqual(found, [[refusal], [refusal], before])

    def test_waiting_where_nothing_happens(self):
        for state in range(4):
            self.check((("begin", 2), ("set_to", state)), 0, [], [])
            self.check((("begin", 2), ("deed", 0, 0, 1, 1), ("set_to", state)), 1, [], [])
            self.check((("begin", 2), *[("deed", 0, 0, 1, 1)] * 6, ("set_to", state)), 6, [], [])

    def test_waiting_that_can_not_be_undone(self):
        calls = (("begin", 3), ("event", 2, 2, 4, 4), ("event", 1, 1, 2, 2))
        self.check((*calls, ("set_to", 1)), 0, None, [1])
        self.check((*calls, ("set_to", 3)), 0, None, [3])
        self.check((*calls, ("set_to", 7)), 0, [], [])

    def test_waiting_that_can_be_undone(self):
        # By a deed: 2 goes to 1 by itself, and the deed makes of 1 what goes to 2 at once.
        calls = (("begin", 3), ("deed", 7, 1, 7, 4), ("event", 7, 2, 7, 1), ("event", 7, 4, 7, 2), ("set_to", 2))
        self.check(calls, 1, [0], [])
        # By waiting alone, round and round: 1, 2, 1, 2.
        calls = (("begin", 2), ("event", 3, 2, 3, 0), ("event", 3, 1, 3, 2), ("event", 3, 0, 3, 1))
        self.check((*calls, ("set_to", 1)), 0, [0], [])
        self.check((*calls, ("set_to", 2)), 0, [0], [])
        self.check((*calls, ("set_to", 0)), 0, None, [0])

    def test_changes_nothing(self):
        self.check((("begin", 2), ("deed", 0, 0, 1, 0)), 0, [], [])
        self.check((("begin", 2), ("deed", 1, 1, 3, 3), ("deed", 0, 0, 3, 0), ("set_to", 3)), 0, [], [])

    def test_undone_at_once_by_an_event(self):
        self.check((("begin", 2), ("deed", 0, 0, 1, 1), ("event", 1, 1, 1, 0)), 0, [], [])

    def test_changes_nothing_but_an_event_happens(self):
        self.check((("begin", 2), ("deed", 0, 0, 1, 0), ("event", 0, 0, 2, 2)), 0, None, [0])

    def test_undone_by_one_deed(self):
        calls = (("begin", 2), ("deed", 1, 0, 1, 1), ("deed", 1, 1, 1, 0))
        self.check(calls, 0, [1], [])
        self.check((*calls, ("set_to", 3)), 1, [0], [])

    def test_undone_by_several_rows(self):
        calls = (("begin", 2), ("deed", 1, 0, 1, 1), ("deed", 2, 2, 1, 0), ("deed", 1, 1, 1, 0), ("deed", 0, 0, 1, 0))
        self.check(calls, 0, [2], [])
        self.check((*calls, ("set_to", 2)), 0, [1], [])
        # Three facts to be taken back, in whichever order.
        calls = (("begin", 3), ("deed", 0, 0, 4, 0), ("deed", 0, 0, 7, 7), ("deed", 0, 0, 1, 0), ("deed", 0, 0, 2, 0))
        self.check(calls, 1, [0, 2, 3], [])
        self.check((*calls, ("set_to", 2)), 1, [0, 2], [])

    def test_shorter_ahead_of_lesser(self):
        calls = (("begin", 3), ("deed", 0, 0, 1, 0), ("deed", 0, 0, 2, 0), ("deed", 0, 0, 3, 3), ("deed", 3, 3, 3, 0))
        self.check(calls, 2, [3], [])

    def test_the_lesser_where_two_first_differ(self):
        # Back from 1 to 0: 1 then 3, and 2 then 0.
        calls = (("begin", 3), ("deed", 7, 5, 7, 0), ("deed", 7, 1, 7, 3), ("deed", 7, 1, 7, 5), ("deed", 7, 3, 7, 0),
                 ("deed", 7, 0, 7, 1))
        self.check(calls, 4, [1, 3], [])

    def test_undone_by_waiting(self):
        # The step leads from 2 to 4, and of 4 the events make 2 one step later.
        calls = (("begin", 3), ("deed", 7, 2, 7, 1), ("event", 7, 4, 7, 2), ("event", 7, 1, 7, 4), ("set_to", 2))
        self.check(calls, 0, [1], [])

    def test_undone_far_on(self):
        row = [(number & -number).bit_length() - 1 for number in range(2, 32)] + [5]
        self.check(ROUND_ALL, 0, row, [])
        self.check((*ROUND_ALL, ("set_to", 1)), 1, row[1:] + [0], [])
        self.check(ROUND_ALL, 6, [], [])

    def test_can_not_be_undone(self):
        self.check((("begin", 2), ("deed", 0, 0, 1, 1)), 0, None, [0])
        self.check((*COUNTING, ("set_to", 12)), 0, None, [12])

    def test_lost_rising(self):
        # Facts 0 and 1 come and go; what is done about fact 2 is done for ever.
        calls = (("begin", 3), ("deed", 0, 0, 4, 4), ("deed", 1, 0, 1, 1), ("deed", 1, 1, 1, 0), ("deed", 2, 0, 2, 2),
                 ("deed", 2, 2, 2, 0))
        self.check(calls, 0, None, [0, 1, 2, 3])
        self.check((*calls, ("set_to", 3)), 0, None, [0, 1, 2, 3])
        self.check(calls, 1, [2], [])
        self.check((*calls, ("set_to", 4)), 0, [], [])

    def test_lost_rising_whatever_comes_first(self):
        calls = (("begin", 5), ("deed", 0, 0, 31, 31), ("deed", 31, 21, 31, 30), ("deed", 31, 21, 31, 2),
                 ("deed", 31, 2, 31, 9), ("set_to", 21))
        self.check(calls, 0, None, [2, 9, 21, 30])
        self.check(calls, 1, None, [2, 9, 21])
        self.check(calls, 2, None, [21, 30])
        self.check((*calls, ("set_to", 2)), 3, None, [2])

    def test_lost_by_waiting(self):
        # Fact 0 goes by itself in a step, but where fact 1 comes in that very step.
        calls = (("begin", 2), ("deed", 1, 1, 2, 2), ("event", 3, 1, 1, 0), ("set_to", 1))
        self.check(calls, 1, None, [1, 3])
        self.check(calls, 0, None, [0, 1])

    def test_what_can_not_come_now_is_not_lost(self):
        self.check((("begin", 5), ("deed", 1, 0, 1, 1), ("set_to", 8)), 0, None, [8])

    def test_need_not_so(self):
        calls = (("begin", 2), ("deed", 1, 1, 2, 2), ("deed", 2, 2, 3, 0), ("event", 0, 0, 1, 1))
        self.check_refused(calls, 0, -6)
        self.check_refused(calls, 1, -6)
        self.check_refused((*calls, ("set_to", 2)), 0, -6)
        self.check_refused((*calls, ("set_to", 1)), 1, -6)
        # Done or not, it would change nothing, and nothing else comes: it can't be done all the same.
        self.check_refused((("begin", 2), ("deed", 1, 1, 1, 0)), 0, -6)

    def test_no_such_choice(self):
        for many in range(7):
            calls = (("begin", 2), *[("deed", 1, 1, 2, 2)] * many, ("event", 0, 0, 1, 1))
            for choice in (many + 1, many + 2, 8, 2147483648, LARGEST):
                self.check_refused(calls, choice, -2)

    def test_behind_every_change(self):
        found = ask(("begin", 2), ("deed", 1, 0, 1, 1), ("deed", 1, 1, 1, 0), ("undo", 0), ("undeed", 1), ("undo", 0),
                    ("lost", 0), ("undo", 2), ("do", 0), ("undo", 0), ("undo", 1), ("event", 0, 0, 1, 0), ("undo", 1),
                    ("lost", 1), ("wait", 1), ("undo", 0), ("lost", 0), ("unevent", 0), ("lost", 0), ("set_to", 2),
                    ("lost", 0), ("begin", 2), ("lost", 0), ("lost", 1))
        told = [found[place] for place in (3, 5, 6, 7, 9, 10, 12, 13, 15, 16, 18, 20, 22, 23)]
        self.assertEqual(told, [[1, 1], [-33], [1, 0], [-2], [-6], [0], [-33], [1, 1], [0], [0], [1, 0], [1, 2],
                                [0], [-2]])


if __name__ == "__main__":
    unittest.main()
