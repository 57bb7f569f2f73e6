"""Lines of calls that are drawn by a fixed seed."""

import random

from tests.lines import LARGEST

HOW_OFTEN = (
    ("begin", 1), ("deed", 14), ("event", 6), ("undeed", 3), ("unevent", 2), ("deedis", 2), ("eventis", 2),
    ("set_to", 5), ("now", 3), ("able", 4), ("do", 16), ("wait", 4), ("reach", 4), ("canbe", 4), ("fewest", 4),
    ("row", 8), ("undo", 8), ("lost", 6), ("settled", 4), ("never", 4), ("byitself", 3), ("play", 5),
)
QUESTIONS = HOW_OFTEN[7:]
WITHOUT_NUMBERS = ("now", "able", "reach", "settled", "never")
AIMED = ("canbe", "fewest", "row")


class Drawn:
    def __init__(self, seed, many=None):
        self.source = random.Random(seed)
        self.many = many or self.source.randrange(2, 6)
        self.lively = self.source.random() < 0.6

    def part(self, whole):
        return whole & self.source.randrange(1 << self.many)

    def one(self):
        return 1 << self.source.randrange(self.many)

    def rule(self):
        if self.lively and self.source.random() < 0.9:
            return self.turning_rule()
        full = (1 << self.many) - 1
        a = self.part(full) & self.part(full)
        c = self.part(full)
        return (a, self.part(a), c, self.part(c))

    def turning_rule(self):
        """One that turns few facts over and needs few others: such lead on by long rows, and back."""
        c = self.one() | (self.one() if self.source.random() < 0.4 else 0)
        d = self.part(c)
        others = (self.one() | (self.one() if self.source.random() < 0.5 else 0)) & ~c
        return (c | others, c & ~d | self.part(others), c, d)

    def at_times_wrong(self, numbers):
        numbers = list(numbers)
        if numbers and self.source.random() < 0.1:
            numbers[self.source.randrange(len(numbers))] = self.wrong()
        return tuple(numbers)

    def wrong(self):
        return self.source.choice((0, 1, 3, 7, 41, 1 << self.many, 31, 32, 2147483648, LARGEST,
                                   self.source.randrange(1 << 32)))

    def aim(self):
        a = self.part((1 << self.many) - 1) | self.part((1 << self.many) - 1)
        return (a, self.part(a))

    def row(self):
        longest = self.source.choice((1, 4, 9, 41))
        return [self.source.randrange(4) for place in range(self.source.randrange(longest))]

    def call(self, often=HOW_OFTEN):
        name = self.source.choices([one for one, weight in often], [weight for one, weight in often])[0]
        if name in WITHOUT_NUMBERS:
            return (name,)
        if name in ("deed", "event"):
            return (name,) + self.at_times_wrong(self.rule())
        if name in AIMED:
            return (name,) + self.at_times_wrong(self.aim())
        if name == "play":
            return (name,) + self.at_times_wrong(self.row())
        if self.source.random() < 0.05:
            return (name, self.wrong())
        most = {"begin": 7, "set_to": (1 << self.many) + 1, "wait": 4, "byitself": 43, "do": 5, "undo": 6, "lost": 6}
        return (name, self.source.randrange(most.get(name, 4)))

    def line(self):
        first = [("begin", self.many)] if self.source.random() < 0.95 else []
        return first + [self.call() for place in range(self.source.randrange(1, 60))]

    def desk(self, deeds, events):
        state = self.source.randrange(1 << self.many)
        return [("begin", self.many), *[("deed",) + self.rule() for i in range(deeds)],
                *[("event",) + self.rule() for i in range(events)], ("set_to", state)]

    def small_desk(self):
        return self.desk(self.source.randrange(3), self.source.randrange(3))

    def full_desk(self):
        return self.desk(self.source.randrange(4, 7), self.source.choice((0, 0, 1, 1, 2, 3)))

    def counting_desk(self):
        """Deeds that count up through all states, the facts in some order and some turned over: the longest rows."""
        order = self.source.sample(range(self.many), self.many)
        turned = self.part((1 << self.many) - 1)
        deeds = []
        for place in range(self.many):
            below = sum(1 << fact for fact in order[:place])
            here = below | 1 << order[place]
            deeds.append(("deed", here, (below ^ turned) & here, here, (here ^ below ^ turned) & here))
        deeds.append(("deed",) + self.rule())
        self.source.shuffle(deeds)
        events = [("event",) + self.turning_rule() for i in range(self.source.choice((0, 0, 1, 2)))]
        return [("begin", self.many), *deeds, *events, ("set_to", self.source.randrange(1 << self.many))]

    def full_line(self):
        return self.full_desk() + [self.call(QUESTIONS) for place in range(40)]

    def counting_line(self):
        return self.counting_desk() + [self.call(QUESTIONS) for place in range(40)]
