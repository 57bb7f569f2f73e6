"""A second telling of the document, over sets of facts instead of numbers, to hold the program against.

What can come is found by joining ways with ways, for all states at once; a shortest row by how far each
state is from the aim, told from the aim backwards, and then by the least choice that comes nearer to it.
"""

import itertools


def facts_of(number):
    return frozenset(q for q in range(32) if number // 2 ** q % 2)


def number_of(facts):
    return sum(2 ** q for q in facts)


def is_met(rule, so):
    return all((q in so) == (q in rule[1]) for q in rule[0])


def made(rule, so):
    return (so - rule[2]) | rule[3]


def with_count(found):
    return [len(found)] + found


class Model:
    def __init__(self):
        self.facts = None
        self.so = frozenset()
        self.kinds = {"deed": [], "event": []}
        self.most = {"deed": 6, "event": 3}
        self.known = None

    def answer(self, name, *given):
        if name == "begin":
            return self.begin(given[0])
        if self.facts is None:
            return [-11]
        for kind in ("deed", "event"):
            if name == kind:
                return self.put_in(kind, given)
            if name == "un" + kind:
                return self.out(self.kinds[kind], given[0])
            if name == kind + "is":
                return self.shown(self.kinds[kind], given[0])
        if name == "play":
            return self.play(given)
        return getattr(self, name)(*given)

    def begin(self, many):
        if many not in (2, 3, 4, 5):
            return [-22]
        self.facts = frozenset(range(many))
        self.so = frozenset()
        self.kinds = {"deed": [], "event": []}
        self.known = None
        return [0]

    def put_in(self, kind, given):
        a, b, c, d = [facts_of(number) for number in given]
        if not (a <= self.facts and b <= a and c and c <= self.facts and d <= c):
            return [-22]
        if len(self.kinds[kind]) == self.most[kind]:
            return [-28]
        self.kinds[kind] = self.kinds[kind] + [(a, b, c, d)]
        self.known = None
        return [len(self.kinds[kind]) - 1]

    def out(self, rules, i):
        if i not in range(len(rules)):
            return [-2]
        del rules[i]
        self.known = None
        return [len(rules)]

    def shown(self, rules, i):
        if i not in range(len(rules)):
            return [-2]
        return [number_of(facts) for facts in rules[i]]

    def set_to(self, s):
        if not facts_of(s) <= self.facts:
            return [-22]
        before = number_of(self.so)
        self.so = facts_of(s)
        return [before]

    def now(self):
        return [number_of(self.so)]

    def able(self):
        return with_count([i for i, rule in enumerate(self.kinds["deed"]) if is_met(rule, self.so)])

    def do(self, i):
        if i not in range(len(self.kinds["deed"])):
            return [-2]
        behind = self.behind(i, self.so)
        if behind is None:
            return [-6]
        self.so = behind
        return self.now()

    def is_choice(self, i):
        return i in range(len(self.kinds["deed"]) + 1)

    def behind(self, choice, so):
        """What a choice leads to, or None where it can't be done."""
        for rule in self.kinds["deed"][choice:choice + 1]:
            if not is_met(rule, so):
                return None
            so = made(rule, so)
        for event in self.kinds["event"]:
            if is_met(event, so):
                so = made(event, so)
        return so

    def played(self, choices):
        """All states of a row, the first and the last too, up to a choice that can't be done."""
        states = [self.so]
        for choice in choices:
            behind = self.behind(choice, states[-1])
            if behind is None:
                break
            states.append(behind)
        return states

    def play(self, choices):
        if not all(self.is_choice(choice) for choice in choices):
            return [-2]
        states = self.played(choices)
        return [number_of(states[-1]), len(states) - 1]

    def byitself(self, k):
        if k > 40:
            return [-22]
        return [number_of(self.played([len(self.kinds["deed"])] * k)[-1])]

    def wait(self, k):
        told = self.byitself(k)
        if told != [-22]:
            self.so = facts_of(told[0])
        return told

    def ways(self):
        """For each state what its choices lead to; and for each state all that can come of it."""
        if self.known is None:
            states = [facts_of(number) for number in range(2 ** len(self.facts))]
            choices = range(len(self.kinds["deed"]) + 1)
            by_choice = {so: [self.behind(choice, so) for choice in choices] for so in states}
            come = {so: {so} | {behind for behind in by_choice[so] if behind is not None} for so in states}
            for midst, first in itertools.product(states, repeat=2):
                if midst in come[first]:
                    come[first] |= come[midst]
            self.known = by_choice, come
        return self.known

    def come(self, so):
        return self.ways()[1][so]

    def far(self, ends):
        """How many steps each state is from the nearest of the ends, where it can come there at all."""
        by_choice = self.ways()[0]
        steps = {so: 0 for so in ends}
        for many in range(1, len(by_choice)):
            nearer = {so for so in by_choice if so not in steps and any(to in steps for to in by_choice[so])}
            steps.update({so: many for so in nearer})
        return steps

    def nearest_row(self, so, ends):
        """The shortest row to one of the ends, or None."""
        steps = self.far(ends)
        if so not in steps:
            return None
        row = []
        while steps[so] > 0:
            behind = self.ways()[0][so]
            row.append(min(i for i, to in enumerate(behind) if to in steps and steps[to] == steps[so] - 1))
            so = behind[row[-1]]
        return row

    def ends_of(self, a, b):
        """The states in which an aim is so, or None where it's no aim."""
        aim = facts_of(a), facts_of(b)
        if not (aim[0] <= self.facts and aim[1] <= aim[0]):
            return None
        return [so for so in self.ways()[0] if is_met(aim, so)]

    def reach(self):
        return with_count(sorted(number_of(so) for so in self.come(self.so)))

    def canbe(self, a, b):
        ends = self.ends_of(a, b)
        return [-22] if ends is None else [int(bool(self.come(self.so) & set(ends)))]

    def row(self, a, b):
        ends = self.ends_of(a, b)
        if ends is None:
            return [-22]
        row = self.nearest_row(self.so, ends)
        return [-33] if row is None else with_count(row)

    def fewest(self, a, b):
        ends = self.ends_of(a, b)
        if ends is None:
            return [-22]
        return [self.far(ends).get(self.so, -33)]

    def refused(self, i):
        if not self.is_choice(i):
            return [-2]
        return [-6] if self.behind(i, self.so) is None else None

    def undo(self, i):
        if self.refused(i):
            return self.refused(i)
        row = self.nearest_row(self.behind(i, self.so), [self.so])
        return [-33] if row is None else with_count(row)

    def lost(self, i):
        if self.refused(i):
            return self.refused(i)
        gone = self.come(self.so) - self.come(self.behind(i, self.so))
        return with_count(sorted(number_of(so) for so in gone))

    def settled(self):
        come = self.come(self.so)
        return with_count([q for q in sorted(self.facts) if len({q in so for so in come}) == 1])

    def never(self):
        come = self.come(self.so)
        return with_count([i for i, rule in enumerate(self.kinds["deed"]) if not any(is_met(rule, so) for so in come)])
