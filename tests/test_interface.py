"""The interface: how calls stand in the list, how answers are given back, and what is left as it was."""

import builtins
import contextlib
import io
import sys
import unittest
from unittest import mock

from tests.lines import NAMES, ask, listed
from whatcanbedesk.facts import answers

# On a desk without deeds and events none of these changes how it stands.
ASKED = (
    ("wait", 3), ("reach",), ("canbe", 1, 0), ("fewest", 1, 0), ("row", 1, 0), ("undo", 0), ("lost", 0), ("settled",),
    ("never",), ("byitself", 3), ("play",), ("play", 0, 0), ("play",) + (0,) * 40,
)
ANSWERED = [[5], [1, 5], [0], [-33], [-33], [0], [0], [3, 0, 1, 2], [0], [5], [5, 0], [5, 2], [5, 40]]
LONG = [("begin", 5), ("deed", 1, 0, 1, 1), ("deed", 1, 1, 1, 0), ("event", 1, 1, 2, 2)]


class Watched(list):
    """A list that tells when it is changed."""

    def refuse(self, *given, **named):
        raise AssertionError("the list that was handed in is changed")

    __setitem__ = __delitem__ = __iadd__ = __imul__ = refuse
    append = extend = insert = pop = remove = clear = sort = reverse = refuse


class HowItIsTold(unittest.TestCase):
    def test_numbers_of_the_calls(self):
        calls = [0, 1, 3, 0, 1, 4, 1, 0, 1, 1, 0, 2, 4, 1, 1, 4, 4, 0, 5, 1, 0, 0, 6, 1, 0, 0, 7, 1, 2, 0, 8, 0, 0,
                 9, 0, 0, 10, 1, 0, 0, 3, 1, 0, 0, 4, 1, 0, 0]
        told = [1, 0, 1, 0, 1, 0, 4, 1, 0, 1, 1, 4, 1, 1, 4, 4, 1, 0, 1, 2,
                2, 1, 0, 1, 7, 1, 0, 1, 0]
        self.assertEqual(answers(calls), told)

    def test_numbers_of_the_calls_from_wait_on(self):
        calls = [0, 1, 3, 0, 1, 4, 1, 0, 1, 1, 0, 1, 4, 1, 1, 1, 0, 0, 2, 4, 2, 2, 4, 4, 0, 2, 4, 1, 1, 2, 2, 0,
                 20, 1, 1, 0, 21, 3, 0, 2, 0, 0, 12, 0, 0, 13, 2, 4, 4, 0, 14, 2, 4, 4, 0, 15, 2, 4, 4, 0,
                 16, 1, 2, 0, 17, 1, 0, 0, 18, 0, 0, 19, 0, 0, 11, 1, 40, 0, 10, 1, 0, 0, 11, 1, 1, 0, 18, 0, 0,
                 16, 1, 1, 0, 7, 1, 0, 0, 3, 1, 0, 0, 19, 0, 0, 21, 0, 0]
        told = [1, 0, 1, 0, 1, 1, 1, 0, 1, 1,
                1, 0, 2, 7, 2, 5, 4, 0, 3, 6, 7, 1, 1, 1, 2, 3, 2, 0, 1,
                1, 0, 2, 1, 0, 1, 0, 1, 0, 1, 0, 1, 3, 1, 7, 3, 2, 1, 2,
                2, 1, 0, 1, 7, 1, 1, 2, 1, 0, 2, 0, 0]
        self.assertEqual(answers(calls), told)

    def test_one_call(self):
        self.assertEqual(answers([0, 1, 2, 0]), [1, 0])
        self.assertEqual(answers([0, 1, 9, 0]), [1, -22])
        self.assertEqual(answers([8, 0, 0]), [1, -11])
        self.assertEqual(answers([21, 0, 0]), [1, -11])

    def test_numbers_that_look_like_calls_are_read_past(self):
        self.assertEqual(answers([21, 4, 0, 1, 2, 0, 0, 8, 0, 0, 0, 1, 2, 0, 8, 0, 0]), [1, -11, 1, -11, 1, 0, 1, 0])

    def test_an_answer_of_none_has_its_count(self):
        self.assertEqual(answers([0, 1, 2, 0, 9, 0, 0]), [1, 0, 1, 0])

    def test_whole_numbers_in_a_list(self):
        told = answers(listed(LONG + [("able",), ("do", 0), ("deedis", 0), ("undeed", 1), ("set_to", 99)]))
        self.assertIs(type(told), list)
        self.assertEqual({type(number) for number in told}, {int})

    def test_sixty_calls(self):
        calls = LONG + [("do", i % 2) for i in range(56)]
        self.assertEqual(len(calls), 60)
        self.assertEqual(ask(*calls)[4:], [[3], [2]] * 28)

    def test_the_longest_lines(self):
        calls = [("play",) + (4294967295,) * 40] * 59 + [("begin", 2)]
        self.assertLessEqual(len(listed(calls)), 2600)
        self.assertEqual(ask(*calls), [[-11]] * 59 + [[0]])

    def test_the_longest_lines_behind_a_begin(self):
        calls = [("begin", 2)] + [("play",) + (0,) * 40] * 59
        self.assertLessEqual(len(listed(calls)), 2600)
        self.assertEqual(ask(*calls), [[0]] + [[0, 40]] * 59)

    def test_the_longest_answers(self):
        calls = [("begin", 5), *[("deed", 0, 0, fact, fact) for fact in (1, 2, 4, 8, 16)], ("deed", 0, 0, 31, 0)]
        self.assertEqual(ask(*calls, *[("reach",)] * 53)[7:], [[32] + list(range(32))] * 53)

    def test_each_is_read_to_its_end(self):
        for call, answer in zip(ASKED, ANSWERED):
            found = ask(("begin", 3), ("set_to", 5), call, ("set_to", 6), ("now",))
            self.assertEqual(found, [[0], [0], answer, [5], [6]], call)
        found = ask(("begin", 3), ("set_to", 5), *ASKED, ("set_to", 6), ("now",))
        self.assertEqual(found, [[0], [0], *ANSWERED, [5], [6]])


class WhatIsLeftAsItWas(unittest.TestCase):
    CALLS = listed(LONG + [("undeed", 1), ("deedis", 0), ("do", 0), ("deed", 9, 9, 99, 9), ("unevent", 0),
                           ("set_to", 30), ("wait", 2), ("reach",), ("canbe", 3, 3), ("fewest", 3, 3), ("row", 3, 3),
                           ("row", 1, 2), ("undo", 0), ("undo", 1), ("lost", 0), ("lost", 1), ("settled",),
                           ("never",), ("byitself", 2), ("play",), ("play", 0, 1, 0), ("play", 9, 9), ("now",),
                           ("event", 0, 0, 4, 4), ("eventis", 0), ("do", 0), ("begin", 2), ("able",)])

    def test_the_list_handed_in(self):
        calls = list(self.CALLS)
        answers(calls)
        self.assertEqual(calls, self.CALLS)

    def test_the_list_handed_in_not_for_a_while_either(self):
        self.assertEqual(answers(Watched(self.CALLS)), answers(list(self.CALLS)))

    def test_the_same_twice(self):
        first = answers(list(self.CALLS))
        self.assertEqual(answers(list(self.CALLS)), first)
        first.clear()
        self.assertNotEqual(answers(list(self.CALLS)), [])

    def test_nothing_is_kept(self):
        answers(listed(LONG + [("set_to", 7)]))
        self.assertEqual(ask(("now",)), [[-11]])
        self.assertEqual(ask(("begin", 2), ("now",), ("deedis", 0), ("eventis", 0)), [[0], [0], [-2], [-2]])
        answers(listed(LONG + [("reach",), ("row", 1, 1)]))
        self.assertEqual(ask(("begin", 5), ("reach",), ("row", 1, 1)), [[0], [1, 0], [-33]])

    def test_nothing_is_printed_read_or_imported(self):
        def refuse(*given, **named):
            raise AssertionError("something outside is asked for")

        before = set(sys.modules)
        out, err = io.StringIO(), io.StringIO()
        with contextlib.redirect_stdout(out), contextlib.redirect_stderr(err):
            with mock.patch.object(builtins, "open", refuse), mock.patch.object(builtins, "input", refuse), \
                    mock.patch.object(builtins, "__import__", refuse):
                answers(list(self.CALLS))
        self.assertEqual((out.getvalue(), err.getvalue()), ("", ""))
        self.assertEqual(set(sys.modules), before)

    def test_every_call_is_among_these(self):
        self.assertEqual(set(self.called()), set(range(22)))

    def called(self):
        found = []
        place = 0
        while place < len(self.CALLS):
            found.append(self.CALLS[place])
            place += self.CALLS[place + 1] + 3
        return found

    def test_every_call_has_its_number(self):
        self.assertEqual(len(NAMES), 22)
        self.assertEqual((NAMES[7], NAMES[10], NAMES[21]), ("set_to", "do", "play"))


if __name__ == "__main__":
    unittest.main()
