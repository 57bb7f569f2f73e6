"""Promise 1: deed, event, undeed, unevent, deedis, eventis."""

import unittest

from tests.lines import LARGEST, ask, last

# What is one of the two kinds: its three calls, and how many there may be.
KINDS = (("deed", "undeed", "deedis", 6), ("event", "unevent", "eventis", 3))
FIRST_RULES = ((0, 0, 1, 1), (1, 1, 2, 2), (3, 2, 3, 1), (7, 0, 4, 0), (4, 4, 7, 7), (2, 0, 6, 2))
NO_RULES = (
    (8, 0, 1, 1), (15, 1, 1, 1), (0, 0, 8, 0), (0, 0, 9, 1), (0, 0, 8, 8),
    (0, 1, 1, 1), (1, 2, 1, 1), (1, 3, 1, 1), (5, 2, 1, 1), (3, 8, 1, 1),
    (0, 0, 1, 2), (0, 0, 1, 3), (0, 0, 5, 2), (0, 0, 3, 8),
    (0, 0, 0, 0), (1, 1, 0, 0), (0, 0, 0, 1), (8, 9, 0, 1),
    (LARGEST, 0, 1, 1), (LARGEST, LARGEST, LARGEST, LARGEST), (1, LARGEST, 1, 1), (1, 1, LARGEST, 1),
    (1, 1, 1, LARGEST), (2147483648, 0, 1, 0), (0, 0, 2147483648, 0), (4294967288, 0, 1, 0),
)


def told(call, rules):
    return tuple((call,) + rule for rule in rules)


class PutIn(unittest.TestCase):
    def test_numbers_rise_until_it_is_full(self):
        for call, out, shown, most in KINDS:
            found = ask(("begin", 3), *told(call, FIRST_RULES[:most]), (call, 0, 0, 1, 1))
            self.assertEqual(found[1:], [[i] for i in range(most)] + [[-28]])

    def test_one_too_many_changes_nothing(self):
        for call, out, shown, most in KINDS:
            found = ask(("begin", 3), *told(call, FIRST_RULES[:most]), (call, 2, 2, 4, 4), (shown, most),
                        *[(shown, i) for i in range(most)])
            self.assertEqual(found[most + 1:], [[-28], [-2]] + [list(rule) for rule in FIRST_RULES[:most]])

    def test_what_is_none_is_refused(self):
        for call, out, shown, most in KINDS:
            for rule in NO_RULES:
                found = ask(("begin", 3), (call,) + rule, (shown, 0), ("now",))
                self.assertEqual(found[1:], [[-22], [-2], [0]], (call, rule))

    def test_refused_as_none_ahead_of_as_too_many(self):
        for call, out, shown, most in KINDS:
            for rule in NO_RULES:
                self.assertEqual(last(("begin", 3), *told(call, FIRST_RULES[:most]), (call,) + rule), [-22])

    def test_facts_are_those_of_begin(self):
        for call, out, shown, most in KINDS:
            for many in (2, 3, 4, 5):
                full = (1 << many) - 1
                found = ask(("begin", many), (call, full, full, full, full), (call, full, 0, full, 0),
                            (call, full + 1, 0, 1, 1), (call, 0, 0, full + 1, 0), (shown, 0), (shown, 1))
                self.assertEqual(found[1:], [[0], [1], [-22], [-22], [full] * 4, [full, 0, full, 0]])

    def test_each_rule_of_two_facts(self):
        numbers = range(5)
        for a, b, c, d in [(a, b, c, d) for a in numbers for b in numbers for c in numbers for d in numbers]:
            parts = {0: (0,), 1: (0, 1), 2: (0, 2), 3: (0, 1, 2, 3)}
            is_one = b in parts.get(a, ()) and c != 0 and d in parts.get(c, ())
            for call, out, shown, most in KINDS:
                self.assertEqual(last(("begin", 2), (call, a, b, c, d)), [0] if is_one else [-22], (a, b, c, d))

    def test_the_same_may_be_there_twice(self):
        for call, out, shown, most in KINDS:
            found = ask(("begin", 2), (call, 1, 1, 2, 2), (call, 1, 1, 2, 2), (shown, 0), (shown, 1))
            self.assertEqual(found[1:], [[0], [1], [1, 1, 2, 2], [1, 1, 2, 2]])

    def test_deeds_and_events_are_counted_apart(self):
        calls = told("deed", FIRST_RULES) + told("event", FIRST_RULES[:3])
        found = ask(("begin", 3), *calls, ("deed", 0, 0, 1, 1), ("event", 0, 0, 1, 1))
        self.assertEqual(found[1:], [[0], [1], [2], [3], [4], [5], [0], [1], [2], [-28], [-28]])
        found = ask(("begin", 3), *told("event", FIRST_RULES[:3]), ("deed", 0, 0, 1, 1), ("deedis", 0), ("eventis", 0))
        self.assertEqual(found[4:], [[0], [0, 0, 1, 1], [0, 0, 1, 1]])

    def test_state_stays(self):
        found = ask(("begin", 3), ("set_to", 5), ("deed", 0, 0, 2, 2), ("event", 0, 0, 2, 2), ("now",))
        self.assertEqual(found[-1], [5])


class TakeOut(unittest.TestCase):
    def test_those_behind_are_numbered_one_less(self):
        for call, out, shown, most in KINDS:
            for taken in range(most):
                left = [list(FIRST_RULES[i]) for i in range(most) if i != taken]
                found = ask(("begin", 3), *told(call, FIRST_RULES[:most]), (out, taken),
                            *[(shown, i) for i in range(most)])
                self.assertEqual(found[most + 1:], [[most - 1]] + left + [[-2]])

    def test_down_to_none(self):
        for call, out, shown, most in KINDS:
            found = ask(("begin", 3), *told(call, FIRST_RULES[:most]), *[(out, 0)] * most, (out, 0))
            self.assertEqual(found[most + 1:], [[left] for left in range(most - 1, -1, -1)] + [[-2]])

    def test_none_there(self):
        for call, out, shown, most in KINDS:
            for i in (0, 1, LARGEST):
                self.assertEqual(last(("begin", 3), (out, i)), [-2])
            for i in (2, 3, 6, LARGEST):
                found = ask(("begin", 3), *told(call, FIRST_RULES[:2]), (out, i), (shown, 0), (shown, 1), (shown, 2))
                self.assertEqual(found[3:], [[-2], [0, 0, 1, 1], [1, 1, 2, 2], [-2]])

    def test_room_for_one_more_behind_the_others(self):
        for call, out, shown, most in KINDS:
            found = ask(("begin", 3), *told(call, FIRST_RULES[:most]), (out, 1), (call, 6, 4, 2, 2),
                        (call, 0, 0, 1, 1), (shown, most - 1))
            self.assertEqual(found[most + 1:], [[most - 1], [most - 1], [-28], [6, 4, 2, 2]])

    def test_the_other_kind_stays(self):
        calls = (("begin", 3),) + told("deed", FIRST_RULES[:2]) + told("event", FIRST_RULES[2:4])
        found = ask(*calls, ("undeed", 0), ("eventis", 0), ("eventis", 1), ("unevent", 0), ("deedis", 0))
        self.assertEqual(found[5:], [[1], [3, 2, 3, 1], [7, 0, 4, 0], [1], [1, 1, 2, 2]])

    def test_state_stays(self):
        calls = (("begin", 3), ("set_to", 5), ("deed", 0, 0, 2, 2), ("event", 0, 0, 2, 2))
        self.assertEqual(last(*calls, ("undeed", 0), ("unevent", 0), ("now",)), [5])

    def test_gone_from_able_and_do(self):
        found = ask(("begin", 2), ("deed", 0, 0, 1, 1), ("deed", 0, 0, 2, 2), ("undeed", 0), ("able",), ("do", 1),
                    ("do", 0))
        self.assertEqual(found[3:], [[1], [1, 0], [-2], [2]])

    def test_event_that_is_gone_does_not_happen(self):
        found = ask(("begin", 2), ("deed", 0, 0, 1, 1), ("event", 1, 1, 2, 2), ("unevent", 0), ("do", 0))
        self.assertEqual(found[-1], [1])


class Shown(unittest.TestCase):
    def test_as_told(self):
        for call, out, shown, most in KINDS:
            found = ask(("begin", 5), (call, 31, 21, 30, 18), (call, 0, 0, 16, 0), (shown, 1), (shown, 0), (shown, 0))
            self.assertEqual(found[3:], [[0, 0, 16, 0], [31, 21, 30, 18], [31, 21, 30, 18]])

    def test_none_there(self):
        for call, out, shown, most in KINDS:
            for i in (1, 2, 6, LARGEST):
                self.assertEqual(last(("begin", 3), (call, 0, 0, 1, 1), (shown, i)), [-2])

    def test_refusals_change_nothing(self):
        for call, out, shown, most in KINDS:
            found = ask(("begin", 3), ("set_to", 6), (shown, 0), (out, 0), ("now",), (call, 0, 0, 1, 1))
            self.assertEqual(found[2:], [[-2], [-2], [6], [0]])


if __name__ == "__main__":
    unittest.main()
