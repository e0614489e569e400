"""A second way to find verdicts, to hold the program's against."""


class ByTheWords:
    """The document's section 3, word by word, with least sets found among all sets.

    A promise here is whether it's in time, whether it's done, and its
    conditions: ("kept", n), ("broken", n) or ("deed", whether it holds).
    """

    def __init__(self, promises, sure_before=frozenset(), possible_before=frozenset()):
        self.promises = promises
        self.sure_before = sure_before
        self.possible_before = possible_before

    def all_hold(self, conditions, kept, broken):
        tests = {"kept": kept, "broken": broken, "deed": bool}
        return all(tests[kind](value) for kind, value in conditions)

    def least(self, kept, broken_before):
        sets = [frozenset()]
        for n in range(1, len(self.promises) + 1):
            sets += [some | {n} for some in sets]
        least = frozenset(range(1, len(self.promises) + 1))
        for some in sets:
            wanted = {n for n, (in_time, done, conditions) in enumerate(self.promises, start=1) if in_time and not done
                      and self.all_hold(conditions, kept, lambda m: m in some or m in broken_before)}
            if wanted <= some:
                least = least & some
        return least

    def most(self, sure):
        return self.least(lambda n: n not in sure and n not in self.sure_before, self.possible_before)

    def fewest(self, possible):
        return self.least(lambda n: n not in possible and n not in self.possible_before, self.sure_before)

    def verdicts(self):
        sure, possible = frozenset(), self.most(frozenset())
        while True:
            now = self.fewest(possible), self.most(self.fewest(possible))
            if now == (sure, possible):
                break
            sure, possible = now
        return [self.verdict(n, sure, possible) for n in range(1, len(self.promises) + 1)]

    def verdict(self, n, sure, possible):
        in_time, done, conditions = self.promises[n - 1]
        if n in sure:
            return 2
        if n in possible:
            return 3
        held = self.all_hold(conditions, lambda m: m not in possible and m not in self.possible_before,
                             lambda m: m in sure or m in self.sure_before)
        return 1 if in_time and held else 0

    def consistent(self):
        """All ways to say which promises are broken, where each said follows from what's said."""
        ways = [frozenset()]
        for n in range(1, len(self.promises) + 1):
            ways += [way | {n} for way in ways]
        return [way for way in ways if self.most(way) == way]
