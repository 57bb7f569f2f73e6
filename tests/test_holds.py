"""What holds over the whole program, on desks that are drawn by a fixed seed; and that asking changes nothing."""

import unittest

from tests.drawn import Drawn
from tests.lines import LARGEST, ask, last

QUESTIONS = (
    ("reach",), ("canbe", 3, 2), ("canbe", 64, 0), ("fewest", 3, 1), ("fewest", 0, 1), ("row", 3, 0), ("row", 3, 3),
    ("row", LARGEST, 0), ("undo", 0), ("undo", 1), ("undo", 9), ("lost", 0), ("lost", 1), ("lost", LARGEST),
    ("settled",), ("never",), ("byitself", 1), ("byitself", 40), ("byitself", 41), ("play",), ("play", 0, 1, 0),
    ("play", 1, 1, 0, 0), ("play", 0, 99), ("wait", 41), ("wait", 0),
)


def desks():
    for seed in range(120):
        drawn = Drawn(seed, many=2 + seed % 4)
        yield drawn.counting_desk() if seed % 3 == 0 else drawn.full_desk() if seed % 3 == 1 else drawn.small_desk()


def deeds_of(desk):
    return [answer for call, answer in zip(desk, ask(*desk)) if call[0] == "deed" and answer[0] >= 0]


def choices_of(desk):
    """The choices that can be done as it stands on the desk."""
    waiting = len(deeds_of(desk))
    return ask(*desk, ("able",))[-1][1:] + [waiting]


def stands(desk):
    return last(*desk, ("now",))[0]


def behind(desk, choice):
    """The desk behind a choice."""
    return desk + [("wait", 1) if choice == len(deeds_of(desk)) else ("do", choice)]


class WhatHolds(unittest.TestCase):
    def test_a_state_comes_just_if_a_row_leads_to_it(self):
        for desk in desks():
            full = (1 << desk[0][1]) - 1
            come = last(*desk, ("reach",))[1:]
            self.assertEqual(come, sorted(set(come)))
            self.assertIn(stands(desk), come)
            for state in range(full + 1):
                row = last(*desk, ("row", full, state))
                self.assertEqual(last(*desk, ("canbe", full, state)), [1 if state in come else 0])
                self.assertEqual(last(*desk, ("fewest", full, state)), row[:1])
                if state in come:
                    self.assertEqual(last(*desk, ("play",) + tuple(row[1:])), [state, row[0]])
                    self.assertEqual(len(row), row[0] + 1)
                    self.assertLess(row[0], full + 1)
                else:
                    self.assertEqual(row, [-33])

    def test_what_can_come_is_left_by_no_step(self):
        for desk in desks():
            waiting = len(deeds_of(desk))
            come = last(*desk, ("reach",))[1:]
            for state in come:
                there = desk + [("set_to", state)]
                for choice in choices_of(there):
                    self.assertIn(last(*there, ("play", choice))[0], come)
                self.assertEqual(last(*there, ("play", waiting))[1], 1)

    def test_no_shorter_row(self):
        # One step from anywhere brings an aim nearer by one at most, and the told row's first choice does.
        for desk in desks():
            full = (1 << desk[0][1]) - 1
            for a, b in ((1, 1), (1, 0), (2, 2), (3, 3), (3, 1), (full, full), (full, 0)):
                row = last(*desk, ("row", a, b))
                steps = {choice: last(*behind(desk, choice), ("fewest", a, b))[0] for choice in choices_of(desk)}
                if row == [-33]:
                    self.assertEqual(set(steps.values()), {-33})
                elif row != [0]:
                    nearest = [choice for choice in sorted(steps) if steps[choice] == row[0] - 1]
                    self.assertTrue(all(many >= row[0] - 1 for many in steps.values() if many >= 0))
                    self.assertEqual(row[1], nearest[0])
                    self.assertEqual(last(*behind(desk, row[1]), ("row", a, b)), [row[0] - 1] + row[2:])

    def test_undone_just_if_nothing_is_lost(self):
        for desk in desks():
            state = stands(desk)
            come = last(*desk, ("reach",))[1:]
            for choice in choices_of(desk):
                undone, lost = ask(*desk, ("undo", choice), ("lost", choice))[-2:]
                self.assertEqual(undone != [-33], lost == [0])
                left = last(*behind(desk, choice), ("reach",))[1:]
                self.assertEqual(lost[1:], [one for one in come if one not in left])
                self.assertEqual(lost[0], len(lost) - 1)
                full = (1 << desk[0][1]) - 1
                self.assertEqual(undone, last(*behind(desk, choice), ("row", full, state)))

    def test_what_is_lost_stays_lost(self):
        for desk in desks():
            for choice in choices_of(desk):
                lost = last(*desk, ("lost", choice))[1:]
                further = behind(desk, choice)
                for other in choices_of(further):
                    self.assertFalse(set(lost) & set(last(*behind(further, other), ("reach",))[1:]))

    def test_settled_is_settled_and_never_is_never(self):
        for desk in desks():
            state = stands(desk)
            settled, never = [answer[1:] for answer in ask(*desk, ("settled",), ("never",))[-2:]]
            for choice in choices_of(desk):
                further = behind(desk, choice)
                found = ask(*further, ("settled",), ("never",), ("now",), ("able",))[-4:]
                self.assertLessEqual(set(settled), set(found[0][1:]))
                self.assertLessEqual(set(never), set(found[1][1:]))
                self.assertFalse(set(never) & set(found[3][1:]))
                for fact in settled:
                    self.assertEqual(found[2][0] >> fact & 1, state >> fact & 1)

    def test_settled_and_never_as_the_states_tell(self):
        for desk in desks():
            state = stands(desk)
            come = last(*desk, ("reach",))[1:]
            settled = [fact for fact in range(desk[0][1]) if all((one ^ state) >> fact & 1 == 0 for one in come)]
            self.assertEqual(last(*desk, ("settled",)), [len(settled)] + settled)
            able = [i for one in come for i in last(*desk, ("set_to", one), ("able",))[1:]]
            never = [i for i in range(len(deeds_of(desk))) if i not in able]
            self.assertEqual(last(*desk, ("never",)), [len(never)] + never)


class AskingChangesNothing(unittest.TestCase):
    SHOWN = (("now",), ("able",), *[("deedis", i) for i in range(6)], *[("eventis", i) for i in range(3)])

    def test_each_question_alone(self):
        for desk in list(desks())[:30]:
            before = ask(*desk, *self.SHOWN)[len(desk):]
            for question in QUESTIONS:
                self.assertEqual(ask(*desk, question, *self.SHOWN)[len(desk) + 1:], before, question)

    def test_all_questions_twice(self):
        for desk in list(desks())[:30]:
            first = ask(*desk, *QUESTIONS)[len(desk):]
            self.assertEqual(ask(*desk, *reversed(QUESTIONS))[len(desk):], first[::-1])
            before = ask(*desk, *self.SHOWN)[len(desk):]
            self.assertEqual(ask(*desk, *QUESTIONS, *self.SHOWN)[-len(self.SHOWN):], before)


if __name__ == "__main__":
    unittest.main()
