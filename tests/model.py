"""A second telling of the document, over sets of facts instead of numbers, to hold the program against."""


def facts_of(number):
    return {q for q in range(32) if number // 2 ** q % 2}


def number_of(facts):
    return sum(2 ** q for q in facts)


class Model:
    def __init__(self):
        self.facts = None
        self.so = set()
        self.kinds = {"deed": [], "event": []}
        self.most = {"deed": 6, "event": 3}

    def answer(self, name, *given):
        if name == "begin":
            return self.begin(given[0])
        if self.facts is None:
            return [-11]
        for kind in ("deed", "event"):
            if name == kind:
                return self.put_in(kind, given)
            if name == "un" + kind:
                return self.out(self.kinds[kind], given[0])
            if name == kind + "is":
                return self.shown(self.kinds[kind], given[0])
        return {"set_to": self.set_to, "now": self.now, "able": self.able, "do": self.do}[name](*given)

    def begin(self, many):
        if many not in (2, 3, 4, 5):
            return [-22]
        self.facts = set(range(many))
        self.so = set()
        self.kinds = {"deed": [], "event": []}
        return [0]

    def put_in(self, kind, given):
        a, b, c, d = [facts_of(number) for number in given]
        if not (a <= self.facts and b <= a and c and c <= self.facts and d <= c):
            return [-22]
        if len(self.kinds[kind]) == self.most[kind]:
            return [-28]
        self.kinds[kind] = self.kinds[kind] + [(a, b, c, d)]
        return [len(self.kinds[kind]) - 1]

    def out(self, rules, i):
        if i not in range(len(rules)):
            return [-2]
        del rules[i]
        return [len(rules)]

    def shown(self, rules, i):
        if i not in range(len(rules)):
            return [-2]
        return [number_of(facts) for facts in rules[i]]

    def set_to(self, s):
        if not facts_of(s) <= self.facts:
            return [-22]
        before = number_of(self.so)
        self.so = facts_of(s)
        return [before]

    def now(self):
        return [number_of(self.so)]

    def is_met(self, rule):
        return all((q in self.so) == (q in rule[1]) for q in rule[0])

    def make(self, rule):
        self.so = (self.so - rule[2]) | rule[3]

    def able(self):
        met = [i for i, rule in enumerate(self.kinds["deed"]) if self.is_met(rule)]
        return [len(met)] + met

    def do(self, i):
        if i not in range(len(self.kinds["deed"])):
            return [-2]
        if not self.is_met(self.kinds["deed"][i]):
            return [-6]
        self.make(self.kinds["deed"][i])
        for event in self.kinds["event"]:
            if self.is_met(event):
                self.make(event)
        return self.now()
