"""Rows of choices: what can come of how it stands, by which shortest row, and what can't any more.

Each function that stands for a call gives back the call's whole answer as a list, and changes nothing.
"""

from whatcanbedesk.desk import NEED_NOT_SO, NO_SUCH, NOT_AS_TOLD, is_met, is_within

CAN_NOT_COME = -33


# The states that come first are gone on from first, each by its choices rising: so the first row
# that leads to a state is the shortest one, and the states stand in the order of their rows.
def shortest_rows(desk, start):
    rows = {start: []}
    states = [start]
    place = 0
    while place < len(states):
        state = states[place]
        for choice in range(desk.waiting() + 1):
            if desk.can_be_done(choice, state):
                behind = desk.behind_choice(choice, state)
                if behind not in rows:
                    rows[behind] = rows[state] + [choice]
                    states.append(behind)
        place += 1
    return rows


def counted(found):
    return [len(found)] + found


def reached(desk):
    return counted(sorted(shortest_rows(desk, desk.state)))


def is_aim(aim, all_facts):
    return is_within(aim[0], all_facts) and is_within(aim[1], aim[0])


def row_to_aim(desk, aim):
    if not is_aim(aim, desk.all_facts):
        return [NOT_AS_TOLD]
    rows = shortest_rows(desk, desk.state)
    for state in rows:
        if is_met(aim, state):
            return counted(rows[state])
    return [CAN_NOT_COME]


def fewest_steps(desk, aim):
    return row_to_aim(desk, aim)[:1]


def can_be(desk, aim):
    first = row_to_aim(desk, aim)[0]
    if first == NOT_AS_TOLD:
        return [NOT_AS_TOLD]
    return [0 if first == CAN_NOT_COME else 1]


def refused_choice(desk, choice):
    if not desk.is_choice(choice):
        return [NO_SUCH]
    if not desk.can_be_done(choice, desk.state):
        return [NEED_NOT_SO]
    return []


def row_back(desk, choice):
    refusal = refused_choice(desk, choice)
    if refusal != []:
        return refusal
    rows = shortest_rows(desk, desk.behind_choice(choice, desk.state))
    if desk.state not in rows:
        return [CAN_NOT_COME]
    return counted(rows[desk.state])


def lost_by(desk, choice):
    refusal = refused_choice(desk, choice)
    if refusal != []:
        return refusal
    left = shortest_rows(desk, desk.behind_choice(choice, desk.state))
    return counted([state for state in sorted(shortest_rows(desk, desk.state)) if state not in left])


def settled_facts(desk):
    changed = 0
    for state in shortest_rows(desk, desk.state):
        changed = changed | (state ^ desk.state)
    many = desk.all_facts.bit_length()
    return counted([fact for fact in range(many) if not is_within(1 << fact, changed)])


def never_done(desk):
    states = list(shortest_rows(desk, desk.state))
    return counted([i for i in range(len(desk.deeds)) if not is_ever_met(desk.deeds[i], states)])


def is_ever_met(rule, states):
    return any([is_met(rule, state) for state in states])
