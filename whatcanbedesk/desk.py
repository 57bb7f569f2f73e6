"""The desk: how many facts there are, how they stand, and the deeds and events over them.

A set of facts is a whole number, fact q counting 2 to the power of q.
A deed or an event is a rule (a, b, c, d): it needs that of a just those of b are so,
and makes that of c just those of d are so.
"""

LEAST_FACTS = 2
MOST_FACTS = 5
MOST_DEEDS = 6
MOST_EVENTS = 3
MOST_STEPS = 40

NO_SUCH = -2
NEED_NOT_SO = -6
NOT_AS_TOLD = -22
NO_ROOM = -28


def is_within(part, whole):
    return (part & whole) == part


# An aim (a, b) is met just as the need of a rule is, which stands first in it.
def is_met(rule, state):
    return (state & rule[0]) == rule[1]


def made_by(rule, state):
    return (state & ~rule[2]) | rule[3]


def is_rule(rule, all_facts):
    if not is_within(rule[0], all_facts) or not is_within(rule[1], rule[0]):
        return False
    if rule[2] == 0 or not is_within(rule[2], all_facts):
        return False
    return is_within(rule[3], rule[2])


def take_out(rules, i):
    if i >= len(rules):
        return [NO_SUCH]
    rules.pop(i)
    return [len(rules)]


def told_rule(rules, i):
    if i >= len(rules):
        return [NO_SUCH]
    return list(rules[i])


# Each method that stands for a call gives back the call's whole answer as a list.
class Desk:
    def __init__(self):
        self.begun = False
        self.clear_for(0)

    def clear_for(self, many):
        self.all_facts = (1 << many) - 1
        self.state = 0
        self.deeds = []
        self.events = []

    def begin(self, many):
        if many < LEAST_FACTS or many > MOST_FACTS:
            return [NOT_AS_TOLD]
        self.begun = True
        self.clear_for(many)
        return [0]

    def add_deed(self, rule):
        return self.add_rule(self.deeds, MOST_DEEDS, rule)

    def add_event(self, rule):
        return self.add_rule(self.events, MOST_EVENTS, rule)

    def add_rule(self, rules, most, rule):
        if not is_rule(rule, self.all_facts):
            return [NOT_AS_TOLD]
        if len(rules) >= most:
            return [NO_ROOM]
        rules.append(rule)
        return [len(rules) - 1]

    def set_to(self, state):
        if not is_within(state, self.all_facts):
            return [NOT_AS_TOLD]
        before = self.state
        self.state = state
        return [before]

    def able(self):
        deeds = [i for i in range(len(self.deeds)) if is_met(self.deeds[i], self.state)]
        return [len(deeds)] + deeds

    def do_deed(self, i):
        if i >= len(self.deeds):
            return [NO_SUCH]
        if not self.can_be_done(i, self.state):
            return [NEED_NOT_SO]
        self.state = self.behind_choice(i, self.state)
        return [self.state]

    def wait(self, steps):
        if steps > MOST_STEPS:
            return [NOT_AS_TOLD]
        self.state = self.behind_waiting(steps)
        return [self.state]

    def by_itself(self, steps):
        if steps > MOST_STEPS:
            return [NOT_AS_TOLD]
        return [self.behind_waiting(steps)]

    def play(self, choices):
        # A number that is no choice is refused wherever it stands, behind one that can't be done too.
        for choice in choices:
            if not self.is_choice(choice):
                return [NO_SUCH]
        state = self.state
        done = 0
        for choice in choices:
            if not self.can_be_done(choice, state):
                break
            state = self.behind_choice(choice, state)
            done += 1
        return [state, done]

    # Waiting is the choice behind all deeds: it needs nothing and makes nothing by itself.
    def waiting(self):
        return len(self.deeds)

    def is_choice(self, choice):
        return choice <= self.waiting()

    def can_be_done(self, choice, state):
        return choice == self.waiting() or is_met(self.deeds[choice], state)

    def behind_choice(self, choice, state):
        if choice != self.waiting():
            state = made_by(self.deeds[choice], state)
        return self.behind_events(state)

    def behind_waiting(self, steps):
        state = self.state
        for step in range(steps):
            state = self.behind_choice(self.waiting(), state)
        return state

    # An event looks at what the events ahead of it have made, so the state is carried along.
    def behind_events(self, state):
        for event in self.events:
            if is_met(event, state):
                state = made_by(event, state)
        return state
