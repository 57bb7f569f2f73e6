"""Promise 3: canbe, fewest and row, the ways to an aim."""

import itertools
import unittest

from tests.lines import LARGEST, ask, last

# Deed k carries over into fact k: from 0 on, 31 steps go through all states up to 31, and there's no other way.
COUNTING = (("begin", 5), *[("deed", 2 * fact - 1, fact - 1, 2 * fact - 1, fact) for fact in (1, 2, 4, 8, 16)])
LEADING_ON = (("begin", 3), ("event", 2, 2, 4, 4), ("event", 1, 1, 2, 2), ("set_to", 1))


def count_up(steps):
    """Which facts are carried into by so many steps of COUNTING from 0 on."""
    return [(number & -number).bit_length() - 1 for number in range(1, steps + 1)]


class Aims(unittest.TestCase):
    def check(self, calls, aim, row):
        """What the three calls tell of an aim that can come; the row leads to it, and no shorter one does."""
        before = ask(*calls, ("now",))[-1]
        found = ask(*calls, ("canbe",) + aim, ("fewest",) + aim, ("row",) + aim, ("play",) + tuple(row), ("now",))[-5:]
        self.assertEqual(found[:3], [[1], [len(row)], [len(row)] + row])
        self.assertEqual((found[3][0] & aim[0], found[3][1]), (aim[1], len(row)))
        self.assertEqual(found[4], before)

    def check_told(self, calls, aim, told):
        """What canbe, fewest and row tell, where no row is told."""
        before = ask(*calls, ("now",))[-1]
        found = ask(*calls, ("canbe",) + aim, ("fewest",) + aim, ("row",) + aim, ("now",))[-4:]
        self.assertEqual(found, [[number] for number in told] + [before], aim)

    def test_no_facts(self):
        for calls in ((("begin", 2),), (("begin", 5), ("set_to", 31)), COUNTING, LEADING_ON,
                      (("begin", 2), ("event", 0, 0, 3, 3))):
            self.check(calls, (0, 0), [])

    def test_so_now(self):
        for state in range(8):
            for a in range(8):
                calls = (("begin", 3), ("deed", 0, 0, 7, 7), ("event", 0, 0, 1, 1), ("set_to", state))
                self.check(calls, (a, a & state), [])

    def test_can_not_come(self):
        self.check_told((("begin", 2),), (1, 1), (0, -33, -33))
        self.check_told((("begin", 2), ("set_to", 1)), (1, 0), (0, -33, -33))
        self.check_told((("begin", 2), ("set_to", 1)), (3, 3), (0, -33, -33))
        self.check_told((*COUNTING, ("set_to", 9)), (31, 8), (0, -33, -33))
        self.check_told(LEADING_ON, (1, 0), (0, -33, -33))
        # Each alone can come, both at once can't.
        calls = (("begin", 2), ("deed", 0, 0, 3, 1), ("deed", 0, 0, 3, 2))
        self.check(calls, (1, 1), [0])
        self.check(calls, (2, 2), [1])
        self.check_told(calls, (3, 3), (0, -33, -33))

    def test_undone_at_once_can_not_come(self):
        self.check_told((("begin", 2), ("deed", 0, 0, 1, 1), ("event", 1, 1, 1, 0)), (1, 1), (0, -33, -33))

    def test_no_aim(self):
        full = (("begin", 2), ("deed", 0, 0, 1, 1), ("deed", 0, 0, 2, 2))
        for calls in (full, (*full, ("set_to", 3)), (("begin", 2),), (("begin", 2), ("event", 0, 0, 3, 3))):
            for aim in ((4, 0), (4, 4), (5, 1), (7, 3), (32, 0), (0, 1), (0, 4), (1, 2), (1, 3), (2, 1), (2, 3),
                        (3, 4), (3, 7), (LARGEST, 0), (LARGEST, LARGEST), (0, LARGEST), (3, LARGEST), (LARGEST, 3),
                        (2147483648, 0), (2147483651, 3)):
                self.check_told(calls, aim, (-22, -22, -22))

    def test_every_aim_is_one_or_not(self):
        for many in (2, 3, 4, 5):
            for a, b in itertools.product(range(70), repeat=2):
                if a % 9 == 0 or a < 8:
                    is_aim = a < 1 << many and a & b == b
                    found = ask(("begin", many), ("canbe", a, b), ("fewest", a, b), ("row", a, b))[1:]
                    if not is_aim:
                        self.assertEqual(found, [[-22]] * 3)
                    elif b == 0:
                        self.assertEqual(found, [[1], [0], [0]])
                    else:
                        self.assertEqual(found, [[0], [-33], [-33]])

    def test_facts_that_are_not_to_be_so(self):
        calls = (("begin", 3), ("deed", 0, 0, 3, 3), ("deed", 3, 3, 1, 0), ("deed", 3, 3, 2, 0), ("set_to", 0))
        self.check(calls, (3, 2), [0, 1])
        self.check(calls, (3, 1), [0, 2])
        self.check(calls, (2, 2), [0])
        self.check_told((*calls, ("set_to", 7)), (3, 0), (0, -33, -33))
        self.check_told((*calls, ("set_to", 7)), (4, 0), (0, -33, -33))

    def test_waiting_alone(self):
        self.check(LEADING_ON, (2, 2), [0])
        self.check(LEADING_ON, (4, 4), [0, 0])
        # The deeds are there, and of no help: waiting is the choice behind them.
        calls = (*LEADING_ON, ("deed", 1, 0, 1, 1), ("deed", 2, 0, 1, 0))
        self.check(calls, (6, 6), [2, 2])

    def test_a_lesser_number_ahead_of_waiting(self):
        # What waiting brings comes by any deed's step as well.
        calls = (*LEADING_ON, ("deed", 0, 0, 1, 1), ("deed", 0, 0, 1, 1))
        self.check(calls, (4, 4), [0, 0])
        calls = (*LEADING_ON, ("deed", 2, 2, 1, 1), ("deed", 0, 0, 1, 1))
        self.check(calls, (4, 4), [1, 0])
        calls = (*LEADING_ON, ("deed", 2, 2, 1, 1))
        self.check(calls, (4, 4), [1, 0])

    def test_shorter_ahead_of_lesser(self):
        calls = (("begin", 3), ("deed", 1, 0, 1, 1), ("deed", 1, 1, 4, 4), ("deed", 0, 0, 6, 6))
        self.check(calls, (4, 4), [2])
        self.check(calls, (7, 5), [0, 1])
        self.check(calls, (7, 7), [0, 2])

    def test_like_rows_to_one_state(self):
        calls = (("begin", 2), ("deed", 2, 2, 1, 1), ("deed", 0, 0, 1, 1), ("deed", 0, 0, 1, 1))
        self.check(calls, (1, 1), [1])
        # Three facts to be made so, in whichever order.
        calls = (("begin", 3), ("deed", 0, 0, 4, 4), ("deed", 0, 0, 1, 1), ("deed", 0, 0, 2, 2))
        self.check(calls, (7, 7), [0, 1, 2])
        self.check(calls, (3, 3), [1, 2])
        self.check(calls, (6, 6), [0, 2])

    def test_like_rows_to_different_states(self):
        for first, second in ((1, 5), (5, 1)):
            calls = (("begin", 3), ("deed", 0, 0, 7, first), ("deed", 0, 0, 7, second))
            self.check(calls, (1, 1), [0])
            self.assertEqual(last(*calls, ("play", 0)), [first, 1])

    def test_where_two_first_differ(self):
        # Rows of two: 0 then 2, and 1 then 0. The last choice of the one that's told is the greater.
        for made, end in ((8, 10), (12, 14), (24, 26)):
            calls = (("begin", 5), ("deed", 0, 0, 2, 2), ("deed", 0, 0, 6, 4), ("deed", 2, 2, made, made),
                     ("event", 6, 6, 8, 8))
            self.check(calls, (8, 8), [0, 2])
            self.assertEqual(last(*calls, ("play", 0, 2)), [end, 2])
            self.assertEqual(last(*calls, ("play", 1, 0)), [14, 2])
            self.assertEqual(last(*calls, ("play", 0, 1)), [4, 2])

    def test_where_two_first_differ_in_the_midst(self):
        # Rows of three: 3, 0, 2 and 3, 1, 0: the same as above, behind a choice that comes first.
        calls = (("begin", 5), ("deed", 1, 1, 2, 2), ("deed", 1, 1, 6, 4), ("deed", 2, 2, 24, 24), ("deed", 1, 0, 1, 1),
                 ("event", 6, 6, 8, 8))
        self.check(calls, (8, 8), [3, 0, 2])
        self.assertEqual(last(*calls, ("play", 3, 1, 0)), [15, 3])

    def test_as_many_steps_as_there_are_states_but_one(self):
        self.check(COUNTING, (31, 31), count_up(31))
        self.check(COUNTING, (16, 16), count_up(16))
        self.check(COUNTING, (31, 21), count_up(21))
        self.check((*COUNTING, ("set_to", 30)), (31, 31), [0])
        self.check((*COUNTING, ("deed", 31, 31, 31, 0), ("set_to", 1)), (31, 0), count_up(31)[1:] + [5])

    def test_an_event_in_the_way(self):
        # Fact 0 is taken away at once but where fact 1 is so.
        calls = (("begin", 2), ("deed", 0, 0, 1, 1), ("deed", 0, 0, 2, 2), ("event", 2, 0, 1, 0))
        self.check(calls, (1, 1), [1, 0])

    def test_six_deeds_and_waiting(self):
        calls = (("begin", 2), *[("deed", 1, 1, 2, 2)] * 6, ("event", 1, 0, 1, 1))
        self.check(calls, (1, 1), [6])
        self.check(calls, (3, 3), [6, 0])

    def test_behind_every_change(self):
        aim = ("row", 1, 1)
        found = ask(("begin", 2), aim, ("deed", 2, 0, 2, 2), ("deed", 0, 0, 1, 1), aim, ("undeed", 0), aim,
                    ("do", 0), aim, ("set_to", 2), ("undeed", 0), aim, ("event", 0, 0, 1, 1), aim, ("wait", 1), aim,
                    ("set_to", 0), ("unevent", 0), aim, ("begin", 3), ("deed", 0, 0, 1, 1), ("canbe", 1, 1),
                    ("begin", 2), ("canbe", 1, 1), ("fewest", 1, 1), ("canbe", 4, 0))
        told = [found[place] for place in (1, 4, 6, 8, 11, 13, 15, 18, 21, 23, 24, 25)]
        self.assertEqual(told, [[-33], [1, 1], [1, 0], [0], [-33], [1, 0], [0], [-33], [1], [0], [-33], [-22]])


if __name__ == "__main__":
    unittest.main()
