"""The interface: a list of calls on a new desk, and the list of what they answer."""

from whatcanbedesk.desk import Desk, take_out, told_rule
from whatcanbedesk.rows import can_be, fewest_steps, lost_by, never_done, reached, row_back, row_to_aim, settled_facts

BEGIN = 0
DEED = 1
EVENT = 2
UNDEED = 3
UNEVENT = 4
DEEDIS = 5
EVENTIS = 6
SET_TO = 7
NOW = 8
ABLE = 9
DO = 10
WAIT = 11
REACH = 12
CANBE = 13
FEWEST = 14
ROW = 15
UNDO = 16
LOST = 17
SETTLED = 18
NEVER = 19
BYITSELF = 20

NOT_BEGUN = -11


def answer_over_rules(desk, call, given):
    if call == DEED:
        return desk.add_deed(tuple(given))
    if call == EVENT:
        return desk.add_event(tuple(given))
    if call == UNDEED:
        return take_out(desk.deeds, given[0])
    if call == UNEVENT:
        return take_out(desk.events, given[0])
    if call == DEEDIS:
        return told_rule(desk.deeds, given[0])
    return told_rule(desk.events, given[0])


def answer_over_steps(desk, call, given):
    if call == SET_TO:
        return desk.set_to(given[0])
    if call == NOW:
        return [desk.state]
    if call == ABLE:
        return desk.able()
    if call == DO:
        return desk.do_deed(given[0])
    if call == WAIT:
        return desk.wait(given[0])
    if call == BYITSELF:
        return desk.by_itself(given[0])
    return desk.play(given)


def answer_over_rows(desk, call, given):
    if call == REACH:
        return reached(desk)
    if call == CANBE:
        return can_be(desk, given)
    if call == FEWEST:
        return fewest_steps(desk, given)
    if call == ROW:
        return row_to_aim(desk, given)
    if call == UNDO:
        return row_back(desk, given[0])
    if call == LOST:
        return lost_by(desk, given[0])
    if call == SETTLED:
        return settled_facts(desk)
    return never_done(desk)


def answer_of(desk, call, given):
    if call == BEGIN:
        return desk.begin(given[0])
    if not desk.begun:
        return [NOT_BEGUN]
    if call <= EVENTIS:
        return answer_over_rules(desk, call, given)
    if REACH <= call <= NEVER:
        return answer_over_rows(desk, call, given)
    return answer_over_steps(desk, call, given)


def answers(calls):
    desk = Desk()
    told = []
    place = 0
    while place < len(calls):
        first = place + 2
        behind = first + calls[place + 1]
        answer = answer_of(desk, calls[place], calls[first:behind])
        told.append(len(answer))
        told.extend(answer)
        # Each call ends with a 0: it has no lists.
        place = behind + 1
    return told
