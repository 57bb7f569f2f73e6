"""The interface: a list of calls on a new desk, and the list of what they answer."""

from whatcanbedesk.desk import Desk, take_out, told_rule

BEGIN = 0
DEED = 1
EVENT = 2
UNDEED = 3
UNEVENT = 4
DEEDIS = 5
EVENTIS = 6
SET_TO = 7
NOW = 8
ABLE = 9
DO = 10

NOT_BEGUN = -11


def answer_over_rules(desk, call, given):
    if call == DEED:
        return desk.add_deed(tuple(given))
    if call == EVENT:
        return desk.add_event(tuple(given))
    if call == UNDEED:
        return take_out(desk.deeds, given[0])
    if call == UNEVENT:
        return take_out(desk.events, given[0])
    if call == DEEDIS:
        return told_rule(desk.deeds, given[0])
    return told_rule(desk.events, given[0])


def answer_over_states(desk, call, given):
    if call == SET_TO:
        return desk.set_to(given[0])
    if call == NOW:
        return [desk.state]
    if call == ABLE:
        return desk.able()
    if call == DO:
        return desk.do_deed(given[0])
    # The calls that are not built yet tell nothing rather than something wrong.
    return []


def answer_of(desk, call, given):
    if call == BEGIN:
        return desk.begin(given[0])
    if not desk.begun:
        return [NOT_BEGUN]
    if call <= EVENTIS:
        return answer_over_rules(desk, call, given)
    return answer_over_states(desk, call, given)


def answers(calls):
    desk = Desk()
    told = []
    place = 0
    while place < len(calls):
        first = place + 2
        behind = first + calls[place + 1]
        answer = answer_of(desk, calls[place], calls[first:behind])
        told.append(len(answer))
        told.extend(answer)
        # Each call ends with a 0: it has no lists.
        place = behind + 1
    return told
